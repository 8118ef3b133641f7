import PyProof.Rows.All
import Wide.All
import OpenK.AllK
import Wide.FinOn
import HandS.ForMost
import HandS.Gcd
import HandS.Wide
import HandS.WideBits
import HandS.IsInst
import HandS.SetKeys
import KE.GoesEnumKw
import HandS.More
import KE.KEqSeq
import HandS.Style
import HandS.Walk
import HandS.EndOwn
import HandS.Exc
import HandS.ExcOwn
import HandS.ExcInit
import HandS.WordsExc
import HandS.ExcIs
import HandS.FStr
import HandS.TryOnly
import HandS.Lambda
import KE.KExcSuper
import KE.KSuper
import KE.KExcIs
import HandS.SetFor
import HandS.StrMore
import HandS.Star
import HandS.RaiseMore
import PyProof.Rows.MatchSeqLen
import KE.KUnpackStar
import PySem.Challenge.RW_mixserver_k19_texts_refused
set_option Elab.async false
set_option linter.all false
set_option maxRecDepth 100000
set_option maxHeartbeats 1000000
namespace Mx
open PySem L2

/-! ### own defs, methods, classes as bundles -/
structure OwnF (P : Program) (w : World) (K : PySem.W.Frag) (mg : Str → Option Value) (base : Heap) (x : Str) (k : Nat) (ps : List Str) (sp : Sp) : Prop where
  ex : ∃ (f : Addr) (fd : FuncData), FnOk P w K mg base CX0 k f fd ps sp ∧ mg x = some (.ref f) ∧ PySem.W.keepIn K (.ref f) = true ∧ Binds K fd ps []
structure OwnM (P : Program) (w : World) (K : PySem.W.Frag) (mg : Str → Option Value) (base : Heap) (C : Addr) (m : Str) (k : Nat) (ps : List Str) (sp : Sp) : Prop where
  ex : ∃ (f : Addr) (fd : FuncData), FnOk P w K mg base CX0 k f fd ps sp ∧ Cls K C ∧ Meth K C m f ∧ Binds K fd ps []
structure OwnC (P : Program) (w : World) (K : PySem.W.Frag) (mg : Str → Option Value) (base : Heap) (C : Addr) (x : Str) (k : Nat) (ps : List Str) (sp : Sp) : Prop where
  ex : ∃ (f : Addr) (fd : FuncData), FnOk P w K mg base CX0 k f fd ps sp ∧ mg x = some (.ref C) ∧ Mk K C f ∧ Binds K fd ps []
section
variable {X : Cx} {x m : Str} {k : Nat} {ps : List Str} {sp : Sp} {C : Addr} {p pos apos : Pos} {e o : Expr} {es : List Expr} {t : TA} {to : TE}
theorem p_call (G : OwnF X.prog X.w X.K X.mg X.base x k ps sp) (hr : Room k X.A) (ha : PA X (e :: es) t) (hg : Gl X x := by rfl) (hdb : (x == ("__debug__" : Str)) = false := by decide)
    (he : starEach (e :: es) X.env = (false, eval e X.env) :: starEach es X.env := by rfl) (hpl : (backTo pos (starEach es X.env)).any (·.1) = false := by rfl) :
    PE X (.Call (.Name x p) (e :: es) [] pos) (tCall sp [] E0 t) := by
  obtain ⟨f, fd, G, hm, hk, hb⟩ := G.ex
  exact pe_call G hr hg hm hk hb .nil pass0 ha hdb he hpl
theorem p_make (G : OwnC X.prog X.w X.K X.mg X.base C x k ps sp) (hr : Room (k + 1) X.A) (ha : PA X (e :: es) t) (hg : Gl X x := by rfl) (hdb : (x == ("__debug__" : Str)) = false := by decide)
    (he : starEach (e :: es) X.env = (false, eval e X.env) :: starEach es X.env := by rfl) (hpl : (backTo pos (starEach es X.env)).any (·.1) = false := by rfl) :
    PE X (.Call (.Name x p) (e :: es) [] pos) (tMake C sp [] E0 t) := by
  obtain ⟨f, fd, G, hm, hM, hb⟩ := G.ex
  exact pe_make hM G hr hg hm hb .nil pass0 ha hdb he hpl
theorem p_meth {pl : Sem Bool} (G : OwnM X.prog X.w X.K X.mg X.base C m k ps sp) (hr : Room k X.A) (ho : PE X o to) (ha : PA X (e :: es) t)
    (hst : starEach (e :: es) X.env = (false, eval e X.env) :: starEach es X.env := by rfl) (hpl : (backTo pos (starEach es X.env)).any (·.1) = false := by rfl)
    (ht : eval (.Call (.Attribute o m apos) (e :: es) [] pos) X.env = (do
      let ov ← eval o X.env
      standAt apos.atName
      let (f, first) ← holding [ov] (getMethod ov m pl)
      callWith pos f first (backTo pos (starEach (e :: es) X.env)) (backToKw pos (keywordEach [] X.env))) := by rfl) :
    PE X (.Call (.Attribute o m apos) (e :: es) [] pos) (tMeth C m sp [] E0 to t) := by
  obtain ⟨f, fd, G, hc, hm, hb⟩ := G.ex
  exact pe_meth ho hc hm G hr hb .nil pass0 ha hst hpl ht
theorem p_meth0 {pl : Sem Bool} (G : OwnM X.prog X.w X.K X.mg X.base C m k ps sp) (hr : Room k X.A) (ho : PE X o to)
    (ht : eval (.Call (.Attribute o m apos) [] [] pos) X.env = (do
      let ov ← eval o X.env
      standAt apos.atName
      let (f, first) ← holding [ov] (getMethod ov m pl)
      callWith pos f first (backTo pos (starEach [] X.env)) (backToKw pos (keywordEach [] X.env))) := by rfl) :
    PE X (.Call (.Attribute o m apos) [] [] pos) (tMeth C m sp [] E0 to tNil) := by
  obtain ⟨f, fd, G, hc, hm, hb⟩ := G.ex
  exact pe_meth0 ho hc hm G hr hb .nil pass0 ht
end

/-! ### o.f as a target in a tuple of targets -/
def gFld (K : PySem.W.Frag) (to : TE) (f : Str) : TG := fun y σ H Q => to σ H fun x H2 => ∃ a C dx fs, x = .ref a ∧ H2 a = some (.ins C dx fs) ∧ Cls K C ∧ NoAttr K C f ∧ fs.length < 1000 ∧ Q σ (upd H2 a (.ins C dx (putF f y fs)))
theorem pg_fld {X : Cx} {o : Expr} {to : TE} {f : Str} {pos : Pos} (ho : PE X o to)
    (ha : ∀ v, assign (.Attribute o f pos) X.env v = (do
      let ov ← holding [v] (eval o X.env)
      standAt pos.atName
      holding [v, ov] (setAttr ov f v)
      release [v, ov] []) := by intro _; rfl) : PG X (.Attribute o f pos) (gFld X.K to f) := by
  refine ⟨fun pins s σ H v u Q I r h => ?_⟩
  rw [ha]
  refine PySem.wpAny_bind (PySem.wpAny_holding (thn (ho.run pins s σ H _ I h) fun ov s1 ⟨x, H1, I1, r1, a, C, dx, fs, ex, ea, c, n, l, q⟩ => ?_))
  subst ex
  obtain rfl : ov = Value.ref a := r1
  exact PySem.wpAny_bind (PySem.wpAny_standAt (PySem.wpAny_bind (PySem.wpAny_holding (setattr_ok I1 ea c n l r fun s3 I3 => PySem.wpAny_release ⟨σ, _, I3, q⟩))))

/-! ### fields -/
theorem lk_eq {k : Str} {v : V} {r : List (Str × V)} : List.lookup k ((k, v) :: r) = some v := by
  simp [List.lookup]
theorem lk_ne {k j : Str} {v : V} {r : List (Str × V)} (h : (k == j) = false) : List.lookup k ((j, v) :: r) = List.lookup k r := by
  simp [List.lookup, h]
theorem pf_eq {k : Str} {v u : V} {r : List (Str × V)} : putF k v ((k, u) :: r) = (k, v) :: r := by
  show (if k = k then _ else _) = _
  rw [if_pos rfl]
theorem pf_ne {k j : Str} {v u : V} {r : List (Str × V)} (h : (k == j) = false) : putF k v ((j, u) :: r) = (j, u) :: putF k v r := by
  have h' : ¬ j = k := by
    intro e
    subst e
    simp at h
  show (if j = k then _ else _) = _
  rw [if_neg h']

/-! ### what stays -/
/-- all tracked things stand but those in F; tuples stand always -/
structure Stp (F : List Addr) (H H' : Hp) : Prop where
  keep : ∀ b o, H b = some o → b ∉ F → H' b = some o
  tup : ∀ b xs, H b = some (.tup xs) → H' b = some (.tup xs)
theorem Stp.refl {H : Hp} : Stp [] H H := ⟨fun _ _ h _ => h, fun _ _ h => h⟩
theorem Stp.of {H H' : Hp} (h : Same H H') : Stp [] H H' := ⟨fun b o e _ => h b o e, fun b xs e => h b _ e⟩
theorem Stp.same {H H' : Hp} (h : Stp [] H H') : Same H H' := fun b o e => h.keep b o e (by simp)
theorem Stp.trans {F G : List Addr} {H H1 H2 : Hp} (a : Stp F H H1) (b : Stp G H1 H2) : Stp (F ++ G) H H2 :=
  ⟨fun c o e n => b.keep c o (a.keep c o e fun z => n (List.mem_append_left _ z)) fun z => n (List.mem_append_right _ z), fun c xs e => b.tup c xs (a.tup c xs e)⟩
theorem Stp.sub {F G : List Addr} {H H' : Hp} (a : Stp F H H') (s : ∀ b ∈ F, b ∈ G) : Stp G H H' := ⟨fun c o e n => a.keep c o e fun z => n (s c z), a.tup⟩
/-- what H does not know may change -/
theorem Stp.subN {F G : List Addr} {H H' : Hp} (a : Stp F H H') (s : ∀ b ∈ F, b ∈ G ∨ H b = none) : Stp G H H' :=
  ⟨fun c o e n => a.keep c o e fun z => (s c z).elim n (fun q => by rw [e] at q; cases q), a.tup⟩
theorem Stp.new {H : Hp} {p : Addr} {o : HO} (h : H p = none) : Stp [] H (upd H p o) := .of fun b u e => by rw [upd_ne (ne_of_none e h)]; exact e
theorem Stp.put {H : Hp} {p : Addr} {o u : HO} (h : H p = some u) (n : ∀ xs, u ≠ .tup xs) : Stp [p] H (upd H p o) :=
  ⟨fun b x e q => by rw [upd_ne (by simpa using q)]; exact e, fun b xs e => by rw [upd_ne (ne_of e h (fun z => n xs z.symm))]; exact e⟩
theorem Stp.free {F : List Addr} {H H' : Hp} (a : Stp F H H') {p : Addr} (h : H' p = none) (n : p ∉ F) : H p = none := by
  cases q : H p with
  | none => rfl
  | some o =>
    rw [a.keep p o q n] at h
    cases h

/-! ### tuples that are read -/
def TupAt (K : PySem.W.Frag) (H : Hp) (a : Addr) (xs : List V) : Prop := H a = some (.tup xs) ∨ ∀ H' : Hp, SqT K H' a xs
theorem TupAt.sq {K : PySem.W.Frag} {H : Hp} {a : Addr} {xs : List V} (h : TupAt K H a xs) : SqT K H a xs := h.elim (fun q => .inl (.inl q)) fun q => q H
theorem TupAt.st {K : PySem.W.Frag} {F : List Addr} {H H' : Hp} {a : Addr} {xs : List V} (h : TupAt K H a xs) (s : Stp F H H') : TupAt K H' a xs := h.elim (fun q => .inl (s.tup _ _ q)) .inr

/-! ### fractions -/
/-- v is the fraction q, a tuple in lowest terms -/
def IsQ (K : PySem.W.Frag) (H : Hp) (v : V) (q : Rat) : Prop := ∃ a, v = .ref a ∧ TupAt K H a [.int q.num, .int (q.den : Int)]
theorem IsQ.st {K : PySem.W.Frag} {F : List Addr} {H H' : Hp} {v : V} {q : Rat} (h : IsQ K H v q) (s : Stp F H H') : IsQ K H' v q := by
  obtain ⟨a, e, t⟩ := h
  exact ⟨a, e, t.st s⟩
/-- so many bits -/
structure Rb (n : Nat) (q : Rat) : Prop where
  num : q.num.natAbs < 2 ^ n
  den : q.den < 2 ^ n
theorem Rb.mono {n m : Nat} {q : Rat} (h : Rb n q) (l : n ≤ m) : Rb m q := by
  have e : 2 ^ n ≤ 2 ^ m := Nat.pow_le_pow_right (by decide) l
  exact ⟨Nat.lt_of_lt_of_le h.num e, Nat.lt_of_lt_of_le h.den e⟩
theorem mk_num (t : Int) (b : Nat) (h : 0 < b) : (mkRat t b).num = t / ((Nat.gcd t.natAbs b : Nat) : Int) := by
  rw [Rat.num_mkRat, if_neg (by omega), Nat.gcd_comm]
theorem mk_den (t : Int) (b : Nat) (h : 0 < b) : (mkRat t b).den = b / Nat.gcd t.natAbs b := by
  rw [Rat.den_mkRat, if_neg (by omega), Nat.gcd_comm]
theorem Rb.of {n : Nat} {t : Int} {b : Nat} (h0 : 0 < b) (ht : t.natAbs < 2 ^ n) (hb : b < 2 ^ n) : Rb n (mkRat t b) := by
  refine ⟨?_, ?_⟩
  · rw [mk_num t b h0]
    refine Nat.lt_of_le_of_lt ?_ ht
    rw [Int.natAbs_ediv_of_dvd (Int.ofNat_dvd_left.mpr (Nat.gcd_dvd_left _ _))]
    exact Nat.div_le_self _ _
  · rw [mk_den t b h0]
    exact Nat.lt_of_le_of_lt (Nat.div_le_self _ _) hb
theorem add_mk (q r : Rat) : mkRat (q.num * r.den + r.num * q.den) (q.den * r.den) = q + r := by
  rw [Rat.add_def, Rat.normalize_eq_mkRat]
theorem mul_mk (q r : Rat) : mkRat (q.num * r.num) (q.den * r.den) = q * r := by
  rw [Rat.mul_def, Rat.normalize_eq_mkRat]
theorem sub_mk (q r : Rat) : mkRat (q.num * r.den - r.num * q.den) (q.den * r.den) = q - r := by
  rw [Rat.sub_eq_add_neg, ← add_mk, Rat.neg_num, Rat.neg_den, Int.neg_mul, ← Int.sub_eq_add_neg]
/-! ### names and texts -/
theorem ofString_inj {a b : String} : (Str.ofString a = Str.ofString b) = (a = b) := by
  refine propext ⟨fun h => ?_, fun h => by rw [h]⟩
  rw [Str.ofString_eq_toList, Str.ofString_eq_toList] at h
  have h1 : a.toList.map Char.toNat = b.toList.map Char.toNat := by simpa using h
  have h2 : a.toList = b.toList := by
    have inj : ∀ (x y : List Char), x.map Char.toNat = y.map Char.toNat → x = y := by
      intro x
      induction x with
      | nil => intro y e; cases y with
        | nil => rfl
        | cons c r => simp at e
      | cons c r ih => intro y e; cases y with
        | nil => simp at e
        | cons d t =>
          simp only [List.map_cons, List.cons.injEq] at e
          rw [ih t e.2]
          have : c = d := by
            apply Char.ext
            apply UInt32.toNat_inj.mp
            exact e.1
          rw [this]
    exact inj _ _ h1
  exact String.toList_inj.mp h2
theorem ofString_beq {a b : String} : (Str.ofString a == Str.ofString b) = decide (a = b) := by
  by_cases h : a = b
  · subst h
    simp
  · have : ¬ Str.ofString a = Str.ofString b := by
      rw [ofString_inj]
      exact h
    simp [this, h]
theorem lk_cons {k j : Str} {v : V} {r : List (Str × V)} : List.lookup k ((j, v) :: r) = if (k == j) = true then some v else List.lookup k r := by
  cases h : k == j
  · rw [lk_ne h]; simp
  · simp [List.lookup, h]
theorem pf_nil {k : Str} {v : V} : putF k v [] = [(k, v)] := rfl
theorem pf_cons {k j : Str} {v u : V} {r : List (Str × V)} : putF k v ((j, u) :: r) = if (k == j) = true then (k, v) :: r else (j, u) :: putF k v r := by
  cases h : k == j
  · rw [pf_ne h]; simp
  · have : k = j := by simpa using h
    subst this
    rw [pf_eq]
    simp
/-! ### what isinstance tells of ints -/
theorem isi_int {K : PySem.W.Frag} {H : Hp} {Q : VK} {n : Int} {T : String} {b : Bool} (h : kitB "int" T = some b) (q : Q (.bl b) H) : rIsi K [.int n, .ty T] H Q := ⟨_, _, _, _, _, rfl, .ty _, .base (.int _), kit_ty h, q⟩
theorem isi_inv {K : PySem.W.Frag} {H : Hp} {Q : VK} {n : Int} {T : String} {b : Bool} (hb : kitB "int" T = some b) : rIsi K [.int n, .ty T] H Q ↔ Q (.bl b) H := by
  refine ⟨fun h => ?_, isi_int hb⟩
  obtain ⟨x, c, t, u, b', e, hc, ht, hk, q⟩ := h
  simp only [List.cons.injEq, and_true] at e
  obtain ⟨rfl, rfl⟩ := e
  cases hc
  cases ht with
  | base h =>
    cases h
    have : PySem.W.kitOne K (.type "int") (.type T) = some b := kit_ty hb
    rw [this] at hk
    cases hk
    exact q
theorem isi_int_bool {K : PySem.W.Frag} {H : Hp} {Q : VK} {n : Int} : rIsi K [.int n, .ty "bool"] H Q ↔ Q (.bl false) H := isi_inv (by decide +kernel)
theorem isi_int_int {K : PySem.W.Frag} {H : Hp} {Q : VK} {n : Int} : rIsi K [.int n, .ty "int"] H Q ↔ Q (.bl true) H := isi_inv (by decide +kernel)
theorem isi_int_tuple {K : PySem.W.Frag} {H : Hp} {Q : VK} {n : Int} : rIsi K [.int n, .ty "tuple"] H Q ↔ Q (.bl false) H := isi_inv (by decide +kernel)
theorem isi_int_list {K : PySem.W.Frag} {H : Hp} {Q : VK} {n : Int} : rIsi K [.int n, .ty "list"] H Q ↔ Q (.bl false) H := isi_inv (by decide +kernel)
theorem isi_int_str {K : PySem.W.Frag} {H : Hp} {Q : VK} {n : Int} : rIsi K [.int n, .ty "str"] H Q ↔ Q (.bl false) H := isi_inv (by decide +kernel)
theorem scal_int {i j : Int} : scal (.int i) (.int j) = true := rfl
theorem scal_str {i j : Str} : scal (.str i) (.str j) = true := rfl
theorem scal_bl {i j : Bool} : scal (.bl i) (.bl j) = true := rfl
theorem sz_le {n : Nat} (h : n ≤ 100000) : n ≤ sizeLine := Nat.le_trans h (by decide)
theorem sz2 : (2 ≤ sizeLine) = True := eq_true (by decide)
theorem sz1 : (1 ≤ sizeLine) = True := eq_true (by decide)
theorem q0n : (0 : Rat).num = 0 := rfl
theorem q0d : ((0 : Rat).den : Int) = 1 := rfl

/-! ### a list comprehension whose element makes nothing -/
theorem wipe1 {σ : L2.St} {i : Nat} {x : Option V} : wipe ((wipe σ [i]).set i x) [i] = wipe σ [i] := by
  show ((σ.set i none).set i x).set i none = σ.set i none
  rw [List.set_set, List.set_set]
theorem stp_acc {H0 H : Hp} {D : Addr} {o : HO} (h : Stp [] H0 H) (hD : H0 D = none) (hn : ∀ xs, H D ≠ some (.tup xs)) : Stp [] H0 (upd H D o) := .of fun b u e => by
  rw [upd_ne (ne_of_none e hD)]
  exact h.same b u e
theorem lc_pure {K : PySem.W.Frag} {a : Addr} {xs : List V} {i : Nat} {te : TE} {σ : L2.St} {H0 H9 : Hp} {Q : VK} (f : V → V) (hx : SqL K H0 a xs) (hl : xs.length ≤ 100000)
    (he : ∀ x ∈ xs, ∀ (H : Hp) (Q' : VK), Stp [] H0 H → Q' (f x) H → te ((wipe σ [i]).set i (some x)) H Q')
    (k : ∀ D H', H0 D = none → Stp [] H0 H' → H' D = some (.lst (xs.map f)) → Q (.ref D) H') :
    tLc (fun _ _ R => R (Itl K a) H0) (gName i) tYes te [i] σ H9 Q := by
  intro D hD
  refine lc_list (K := K) (a := a) (xs := xs) (fun j H => Stp [] H0 H ∧ H D = some (.lst ((xs.take j).map f))) ⟨Stp.new hD, upd_same⟩ (fun j H _ h => ?_) (fun j x H hj h => ?_) (fun H h => ?_)
  · rcases hx with (q | ⟨o, q⟩) | q
    · exact .inl (.inl (h.1.same _ _ q))
    · exact .inl (.inr ⟨o, h.1.same _ _ q⟩)
    · exact .inr q
  · refine ⟨wipe1, ?_⟩
    simp only [tYes, reduceIte]
    have hm : x ∈ xs := List.mem_of_getElem? hj
    have hjl : j < xs.length := (List.getElem?_eq_some_iff.mp hj).1
    refine he x hm H _ h.1 ⟨(xs.take j).map f, h.2, ?_, ?_, ?_⟩
    · rw [List.length_map, List.length_take]
      exact Nat.lt_of_le_of_lt (Nat.min_le_right _ _) (Nat.lt_of_le_of_lt hl (by decide))
    · exact stp_acc h.1 hD (by rw [h.2]; intro ys z; cases z)
    · rw [upd_same, List.take_add_one, hj]
      simp
  · have h2 := h.2
    rw [List.take_length] at h2
    exact k D H hD h.1 h2

/-! ### o.f = e and o.f op= e, the heap behind told by what stands in it -/
def sFldA (K : PySem.W.Frag) (ta tv : TE) (f : Str) : TS := fun D σ H => tv σ H fun y H1 => ta σ H1 fun x H2 => ∃ a C dx fs, x = .ref a ∧ H2 a = some (.ins C dx fs) ∧ Cls K C ∧ NoAttr K C f ∧ fs.length < 1000 ∧
  ∀ H3, H3 a = some (.ins C dx (putF f y fs)) → Stp [a] H2 H3 → D.nx σ H3
def sFldAugA (K : PySem.W.Frag) (ta tv : TE) (rd : V → V → Hp → VK → Prop) (f : Str) : TS := fun D σ H => ta σ H fun x H1 => ∃ a C dx fs v, x = .ref a ∧ H1 a = some (.ins C dx fs) ∧ Cls K C ∧ NoAttr K C f ∧ fs.lookup f = some v ∧
  tv σ H1 fun y H2 => rd v y H2 fun z H3 => ∃ dx' fs', H3 a = some (.ins C dx' fs') ∧ fs'.length < 1000 ∧ ∀ H4, H4 a = some (.ins C dx' (putF f z fs')) → Stp [a] H3 H4 → D.nx σ H4
section
variable {X : Cx} {o value : Expr} {ta tv : TE} {f : Str} {pos pos' tpos : Pos}
theorem stp_ins {H : Hp} {a C dx : Addr} {fs gs : List (Str × V)} (h : H a = some (.ins C dx fs)) : Stp [a] H (upd H a (.ins C dx gs)) := Stp.put h fun xs z => nomatch z
theorem ps_fldA (ha : PE X o ta) (hv : PE X value tv) (hs : swapsWith value (some (.Attribute o f pos')) pos.line X.env = pure false := by rfl) : PS X (.Assign [.Attribute o f pos'] value pos) (sFldA X.K ta tv f) :=
  ⟨fun pins s σ H D I h => plainObj_wpAny_Assign_Attribute (thn (hv.run pins s σ H _ I h) fun u s1 ⟨y, H1, I1, ry, q⟩ => thn (ha.run pins s1 σ H1 _ I1 q) fun ov s2 ⟨x, H2, I2, rx, a, C, dx, fs, ex, ea, c, n, l, q2⟩ => by
    subst ex
    obtain rfl : ov = Value.ref a := rx
    exact setattr_ok I2 ea c n l ry fun s3 I3 => ⟨σ, _, I3, q2 _ upd_same (stp_ins ea)⟩) hs⟩
theorem ps_fldaugA {op : Operator} {rd : V → V → Hp → VK → Prop} (ha : PE X o ta) (hv : PE X value tv) (hop : InOp X op rd) : PS X (.AugAssign (.Attribute o f tpos) op value pos) (sFldAugA X.K ta tv rd f) :=
  ⟨fun pins s σ H D I h => wpAny_AugAssign_AttributeAny (thn (ha.run pins s σ H _ I h) fun ov s1 ⟨x, H1, I1, rx, a, C, dx, fs, v, ex, ea, c, n, l, q⟩ => by
    subst ex
    obtain rfl : ov = Value.ref a := rx
    refine getattr_ok I1 ea c n l fun u s2 I2 ru => thn (hv.run pins s2 σ H1 _ I2 q) fun u3 s3 ⟨y, H2, I3, ry, q3⟩ => thn (hop pins s3 σ H2 v y u u3 _ I3 ru ry q3) fun u4 s4 ⟨z, H3, I4, rz, dx', fs', ea', l', q4⟩ => ?_
    exact setattr_ok I4 ea' c n l' rz fun s5 I5 => ⟨σ, _, I5, q4 _ upd_same (stp_ins ea')⟩)⟩
end

theorem filt_take {α : Type} (p : α → Bool) (xs : List α) (j : Nat) {x : α} (h : xs[j]? = some x) : (xs.take (j + 1)).filter p = (xs.take j).filter p ++ if p x = true then [x] else [] := by
  rw [List.take_add_one, h, List.filter_append]
  congr 1
  show [x].filter p = _
  rw [List.filter_cons, List.filter_nil]
theorem lc_pureF {K : PySem.W.Frag} {a : Addr} {xs : List V} {i : Nat} {tt : TT} {te : TE} {σ : L2.St} {H0 H9 : Hp} {Q : VK} (p : V → Bool) (hx : SqL K H0 a xs) (hl : xs.length ≤ 100000)
    (ht : ∀ x ∈ xs, ∀ (H : Hp) (Q' : Bool → Hp → Prop), Stp [] H0 H → Q' (p x) H → tt ((wipe σ [i]).set i (some x)) H Q')
    (he : ∀ x ∈ xs, p x = true → ∀ (H : Hp) (Q' : VK), Stp [] H0 H → Q' x H → te ((wipe σ [i]).set i (some x)) H Q')
    (k : ∀ D H', H0 D = none → Stp [] H0 H' → H' D = some (.lst (xs.filter p)) → Q (.ref D) H') :
    tLc (fun _ _ R => R (Itl K a) H0) (gName i) tt te [i] σ H9 Q := by
  intro D hD
  refine lc_list (K := K) (a := a) (xs := xs) (fun j H => Stp [] H0 H ∧ H D = some (.lst ((xs.take j).filter p))) ⟨Stp.new hD, upd_same⟩ (fun j H _ h => ?_) (fun j x H hj h => ?_) (fun H h => ?_)
  · rcases hx with (q | ⟨o, q⟩) | q
    · exact .inl (.inl (h.1.same _ _ q))
    · exact .inl (.inr ⟨o, h.1.same _ _ q⟩)
    · exact .inr q
  · refine ⟨wipe1, ?_⟩
    have hm : x ∈ xs := List.mem_of_getElem? hj
    have ef := filt_take p xs j hj
    refine ht x hm H _ h.1 ?_
    cases e : p x with
    | false =>
      rw [if_neg (by simp)]
      rw [e] at ef
      refine ⟨h.1, ?_⟩
      rw [ef, h.2]
      simp
    | true =>
      rw [if_pos rfl]
      rw [e] at ef
      refine he x hm e H _ h.1 ⟨(xs.take j).filter p, h.2, ?_, ?_, ?_⟩
      · exact Nat.lt_of_le_of_lt (Nat.le_trans (List.length_filter_le _ _) (by rw [List.length_take]; exact Nat.le_trans (Nat.min_le_right _ _) hl)) (by decide)
      · exact stp_acc h.1 hD (by rw [h.2]; intro ys z; cases z)
      · rw [upd_same, ef]
        rfl
  · have h2 := h.2
    rw [List.take_length] at h2
    exact k D H hD h.1 h2

theorem lc_pureFv {K : PySem.W.Frag} {a : Addr} {xs : List V} {i j : Nat} {tt : TT} {te : TE} {σ : L2.St} {H0 : Hp} {Q : VK} (p : V → Bool) (hj : σ[j]? = some (some (.ref a))) (hx : SqL K H0 a xs) (hl : xs.length ≤ 100000)
    (ht : ∀ x ∈ xs, ∀ (H : Hp) (Q' : Bool → Hp → Prop), Stp [] H0 H → Q' (p x) H → tt ((wipe σ [i]).set i (some x)) H Q')
    (he : ∀ x ∈ xs, p x = true → ∀ (H : Hp) (Q' : VK), Stp [] H0 H → Q' x H → te ((wipe σ [i]).set i (some x)) H Q')
    (k : ∀ D H', H0 D = none → Stp [] H0 H' → H' D = some (.lst (xs.filter p)) → Q (.ref D) H') :
    tLc (iList K (tVar j)) (gName i) tt te [i] σ H0 Q := ⟨_, hj, a, rfl, ⟨_, hx⟩, lc_pureF (H9 := H0) (Q := Q) p hx hl ht he k⟩
theorem lc_pureV {K : PySem.W.Frag} {a : Addr} {xs : List V} {i j : Nat} {te : TE} {σ : L2.St} {H0 : Hp} {Q : VK} (f : V → V) (hj : σ[j]? = some (some (.ref a))) (hx : SqL K H0 a xs) (hl : xs.length ≤ 100000)
    (he : ∀ x ∈ xs, ∀ (H : Hp) (Q' : VK), Stp [] H0 H → Q' (f x) H → te ((wipe σ [i]).set i (some x)) H Q')
    (k : ∀ D H', H0 D = none → Stp [] H0 H' → H' D = some (.lst (xs.map f)) → Q (.ref D) H') :
    tLc (iList K (tVar j)) (gName i) tYes te [i] σ H0 Q := ⟨_, hj, a, rfl, ⟨_, hx⟩, lc_pure (H9 := H0) (Q := Q) f hx hl he k⟩
theorem lc_two {K : PySem.W.Frag} {a : Addr} {x y u w : V} {i : Nat} {te : TE} {σ : L2.St} {H0 H9 : Hp} {Q : VK} (hx : H0 a = some (.lst [x, y]))
    (h1 : ∀ (H : Hp) (Q' : VK), Stp [] H0 H → Q' u H → te ((wipe σ [i]).set i (some x)) H Q') (h2 : ∀ (H : Hp) (Q' : VK), Stp [] H0 H → Q' w H → te ((wipe σ [i]).set i (some y)) H Q')
    (k : ∀ D H', H0 D = none → Stp [] H0 H' → H' D = some (.lst [u, w]) → Q (.ref D) H') :
    tLc (fun _ _ R => R (Itl K a) H0) (gName i) tYes te [i] σ H9 Q := by
  intro D hD
  refine lc_list (K := K) (a := a) (xs := [x, y]) (fun j H => Stp [] H0 H ∧ H D = some (.lst (([u, w] : List V).take j))) ⟨Stp.new hD, upd_same⟩ (fun j H _ h => .inl (.inl (h.1.same _ _ hx))) (fun j z H hj h => ?_) (fun H h => ?_)
  · refine ⟨wipe1, ?_⟩
    simp only [tYes, reduceIte]
    match j, hj with
    | 0, hj =>
      cases Option.some.inj hj
      refine h1 H _ h.1 ⟨[], h.2, by decide, stp_acc h.1 hD (by rw [h.2]; intro ys z; cases z), ?_⟩
      rw [upd_same]
      rfl
    | 1, hj =>
      cases Option.some.inj hj
      refine h2 H _ h.1 ⟨[u], h.2, by show 1 < sizeLine; decide, stp_acc h.1 hD (by rw [h.2]; intro ys z; cases z), ?_⟩
      rw [upd_same]
      rfl
  · exact k D H hD h.1 h.2
theorem lc_twoM {K : PySem.W.Frag} {i : Nat} {tl te : TE} {σ : L2.St} {H : Hp} {Q : VK} (Pr : Addr → Hp → Prop) (htl : ∀ R : VK, (∀ p H', Pr p H' → R (.ref p) H') → tl σ H R)
    (h : ∀ p H', Pr p H' → ∃ x y u w : V, H' p = some (.lst [x, y]) ∧ (∀ (H2 : Hp) (Q' : VK), Stp [] H' H2 → Q' u H2 → te ((wipe σ [i]).set i (some x)) H2 Q') ∧ (∀ (H2 : Hp) (Q' : VK), Stp [] H' H2 → Q' w H2 → te ((wipe σ [i]).set i (some y)) H2 Q') ∧
      ∀ D H2, H' D = none → Stp [] H' H2 → H2 D = some (.lst [u, w]) → Q (.ref D) H2) :
    tLc (iList K tl) (gName i) tYes te [i] σ H Q := htl _ fun p H' hp => by
  obtain ⟨x, y, u, w, hl, h1, h2, k⟩ := h p H' hp
  exact ⟨p, rfl, ⟨_, .inl (.inl hl)⟩, lc_two (H9 := H) (Q := Q) hl h1 h2 k⟩
theorem lc_pureR {i j : Nat} {n : Int} {te : TE} {σ : L2.St} {H0 : Hp} {Q : VK} (f : Nat → V) (hj : σ[j]? = some (some (.int n))) (n0 : 0 ≤ n) (n1 : n ≤ 100000)
    (he : ∀ k : Nat, k < n.toNat → ∀ (H : Hp) (Q' : VK), Stp [] H0 H → Q' (f k) H → te ((wipe σ [i]).set i (some (.int (0 + (k : Int))))) H Q')
    (k : ∀ D H', H0 D = none → Stp [] H0 H' → H' D = some (.lst ((List.range n.toNat).map f)) → Q (.ref D) H') :
    tLc (iRng1 (tCons (tVar j) tNil)) (gName i) tYes te [i] σ H0 Q := by
  refine ⟨_, hj, n, rfl, by omega, by omega, fun D hD => lc_range (lo := 0) (n := n.toNat) (fun m H => Stp [] H0 H ∧ H D = some (.lst ((List.range m).map f))) ⟨Stp.new hD, upd_same⟩ (fun m H hm h => ?_) (fun H h => k D H hD h.1 h.2)⟩
  refine ⟨wipe1, ?_⟩
  simp only [tYes, reduceIte]
  refine he m hm H _ h.1 ⟨(List.range m).map f, h.2, ?_, ?_, ?_⟩
  · rw [List.length_map, List.length_range]
    exact Nat.lt_of_le_of_lt (show m ≤ 100000 by omega) (by decide)
  · exact stp_acc h.1 hD (by rw [h.2]; intro ys z; cases z)
  · rw [upd_same, List.range_succ, List.map_append]
    rfl
/-! the same over a tuple -/
theorem lc_pureT {K : PySem.W.Frag} {a : Addr} {xs : List V} {i : Nat} {te : TE} {σ : L2.St} {H0 H9 : Hp} {Q : VK} (f : V → V) (hx : H0 a = some (.tup xs)) (hl : xs.length ≤ 100000)
    (he : ∀ x ∈ xs, ∀ (H : Hp) (Q' : VK), Stp [] H0 H → Q' (f x) H → te ((wipe σ [i]).set i (some x)) H Q')
    (k : ∀ D H', H0 D = none → Stp [] H0 H' → H' D = some (.lst (xs.map f)) → Q (.ref D) H') :
    tLc (fun _ _ R => R (Itt K a) H0) (gName i) tYes te [i] σ H9 Q := by
  intro D hD
  refine lc_tup (K := K) (a := a) (xs := xs) (fun j H => Stp [] H0 H ∧ H D = some (.lst ((xs.take j).map f))) ⟨Stp.new hD, upd_same⟩ (fun j H _ h => .inl (.inl (h.1.same _ _ hx))) (fun j x H hj h => ?_) (fun H h => ?_)
  · refine ⟨wipe1, ?_⟩
    simp only [tYes, reduceIte]
    have hm : x ∈ xs := List.mem_of_getElem? hj
    refine he x hm H _ h.1 ⟨(xs.take j).map f, h.2, ?_, ?_, ?_⟩
    · rw [List.length_map, List.length_take]
      exact Nat.lt_of_le_of_lt (Nat.min_le_right _ _) (Nat.lt_of_le_of_lt hl (by decide))
    · exact stp_acc h.1 hD (by rw [h.2]; intro ys z; cases z)
    · rw [upd_same, List.take_add_one, hj]
      simp
  · have h2 := h.2
    rw [List.take_length] at h2
    exact k D H hD h.1 h2
theorem isi_tup {K : PySem.W.Frag} {H : Hp} {Q : VK} {t : Addr} {xs : List V} (h : H t = some (.tup xs)) (q : Q (.bl true) H) : rIsi K [.ref t, .ty "tuple"] H Q := ⟨_, _, _, _, _, rfl, .ty _, .base (.tup h), kit_ty (by decide +kernel), q⟩
theorem seq_st {K : PySem.W.Frag} {F : List Addr} {H H' : Hp} {a : Addr} {xs : List V} (h : SqL K H a xs) (s : Stp F H H') (n : a ∉ F) : SqL K H' a xs := by
  rcases h with (q | ⟨o, q⟩) | q
  · exact .inl (.inl (s.keep _ _ q n))
  · exact .inl (.inr ⟨o, s.keep _ _ q n⟩)
  · exact .inr q
end Mx

namespace Mx
open PySem L2 PyProof.Rows
/-! ### for i, x in enumerate(xs, start=z) -/
/-- the items of the list at a, each in a new pair with its number, from z on -/
def Itn (K : PySem.W.Frag) (a : Addr) (z : Int) : It where
  go := fun i H => ∃ (xs : List V) (x : V), SqL K H a xs ∧ xs[i]? = some x
  yld := fun i H v H' => ∃ T x, v = .ref T ∧ H T = none ∧ H' = upd H T (.tup [.int (z + (i : Nat)), x]) ∧ ∀ xs, SqL K H a xs → xs[i]? = some x
  stop := fun i H => ∃ xs : List V, SqL K H a xs ∧ xs.length = i
theorem turn_enumS {P : Program} {w : World} {K : PySem.W.Frag} {elts : List Expr} {kk : Nat} {tpos : Pos} (a e it : Addr) (z : Int) :
    Turn P w K (.Tuple elts kk tpos) (Itn K a z) [e, it] e (fun i h => (∃ old, IsEnum h e it (z + ((i : Nat) : Int)) old) ∧ h.IsListIter it a i ∧ e ≠ it ∧ a ≠ it ∧ a ≠ e) where
  mem := List.mem_cons_self
  obj := by
    rintro i h ⟨⟨old, he⟩, ⟨o, ho, hc, hd⟩, _⟩ b hb
    rcases List.mem_cons.mp hb with q | q
    · subst q
      exact ⟨_, he, fun v q => nomatch q⟩
    · rw [List.mem_singleton.mp q]
      exact ⟨o, ho, fun v q => by rw [hd] at q; cases q⟩
  keep := by
    rintro i h h' ⟨⟨old, he⟩, hi, hne⟩ k
    exact ⟨⟨old, k e List.mem_cons_self _ he⟩, hi.at fun o q => k it (List.mem_cons_of_mem _ List.mem_cons_self) o q, hne⟩
  item := by
    intro X hP hw hK hc i pins s σ H E I hf st hg
    subst hP hw hK
    obtain ⟨⟨old, he⟩, hit, hne, hai, hae⟩ := st
    obtain ⟨xs, x, hq, hx⟩ := hg
    obtain ⟨its, rv, p, hz⟩ := I.list hq
    obtain ⟨u, hu, ru⟩ := rv.get hx
    have hel : e < s.heap.objs.size := Heap.lt_size he
    have hil : it < s.heap.objs.size := by
      obtain ⟨_, q, _⟩ := hit
      exact Heap.lt_size q
    have hlt : i < its.length := (List.getElem?_eq_some_iff.mp hu).1
    have D := Draws.list (prog := X.prog) (w := X.w) (A := X.A.in1) (I.ok.hd hc) it a hai its.toArray
    refine wpAny_pyNext_enum_itemC D he ⟨hit, p.isList⟩ (by simpa using hlt) hne (by simp [hne, Ne.symm hae]) fun u' h' tk hu' ho hst hT hsz hk => ?_
    have hu2 : its[i]? = some u' := by simpa using hu'
    rw [hu] at hu2
    cases hu2
    refine ⟨_, rfl, wpAny_letOwnedTupleGo_enum (s := { s with heap := h', toks := tk + 1 }) ho fun h'' he' sb => ?_⟩
    have hT2 : h''.get? s.heap.objs.size = some { cls := .type "tuple", data := .seq #[.int (z + (i : Nat)) tk, u] } := (sb.2 _ (Nat.ne_of_gt hel)).trans hT
    have new : ObjOk X.prog X.w (upd H s.heap.objs.size (.tup [.int (z + (i : Nat)), x])) h'' s.heap.objs.size (.tup [.int (z + (i : Nat)), x]) :=
      ⟨by show 2 ≤ sizeLine; decide, [.int (z + (i : Nat)) tk, u], .cons ⟨_, rfl⟩ (.cons ru .nil), ⟨_, hT2, rfl, _, rfl⟩⟩
    have I1 : Inv X pins σ (upd H s.heap.objs.size (.tup [.int (z + (i : Nat)), x])) { s with heap := h'', toks := tk + 1 } :=
      I.turnedNew (ch := [e, it]) (fun b ob hb q => (sb.2 b (fun v => hb (by simp [v]))).trans (hk b ob (fun v => hb (by simp [v])) (fun v => hb (by simp [v])) q)) hf (Nat.le_refl _) new
    refine ⟨.ref s.heap.objs.size, _, I1, rfl, ⟨_, x, rfl, I.hok.fresh (Nat.le_refl _), rfl, fun ys hy => by rw [I.list_inj hy hq]; exact hx⟩, ⟨⟨u, ?_⟩, hst.1.at fun o q => (sb.2 it (Ne.symm hne)).trans q, hne, hai, hae⟩, fun b hb => ?_⟩
    · have e1 : z + ((i + 1 : Nat) : Int) = z + (i : Int) + 1 := by omega
      rw [e1]
      exact he'
    · have hb' : b < s.heap.objs.size := by
        rcases List.mem_cons.mp hb with q | q
        · rw [q]; exact hel
        · rw [List.mem_singleton.mp q]; exact hil
      rw [upd_ne (Nat.ne_of_lt hb')]
      exact (hf b hb).1
  done := by
    intro X hP hw hK hc i pins s σ H E I hf st hg
    subst hP hw hK
    obtain ⟨⟨old, he⟩, hit, hne, hai, hae⟩ := st
    obtain ⟨xs, hq, hx⟩ := hg
    obtain ⟨its, rv, p, hz⟩ := I.list hq
    obtain ⟨f0, f1, f2, f3, f4, f5⟩ := hf it (List.mem_cons_of_mem _ List.mem_cons_self)
    have hl := rv.length
    have D := Draws.list (prog := X.prog) (w := X.w) (A := X.A.in1) (I.ok.hd hc) it a hai its.toArray
    have hn : i = its.toArray.size := by
      show i = its.length
      omega
    exact wpAny_pyNext_enum_endD D he (by rw [← hn]; exact ⟨hit, p.isList⟩) fun h' eb => ⟨rfl, I.turned (t' := s.toks) (fun b o hb q => eb b o hb q) f0 f1 f3 f4 f5⟩
  self := by
    rintro A i s Q E ⟨⟨_, he⟩, _⟩ h
    exact wpAny_pyIter_enum he h
/-! ### the call with its start by name -/
theorem callWith_tyKw {M : Model} {A : Around} {E : Value → Shared → Prop} {s : Shared} {env : Env} {pos : Pos} {T : String} {e : Expr} {kw : Keyword} {Q : Value → Shared → Prop}
    (h : wpAny M A (spliced (backTo pos (starEach [e] env))) (fun vs s1 => wpAny M A (evalAll ((backToKw pos (keywordEach [kw] env)).map (·.2)))
      (fun kvs s2 => wpAny M A (call (.type T) vs (((backToKw pos (keywordEach [kw] env)).filterMap (·.1)).zip kvs)) Q E s2) E s1) E s)
    (he : backTo pos (starEach [e] env) = (false, eval e env) :: [])
    (hall : (backToKw pos (keywordEach [kw] env)).all (·.1.isSome) = true)
    (hkw : (backToKw pos (keywordEach [kw] env)).any (·.1.isNone) = false) :
    wpAny M A (callWith pos (.type T) [] (backTo pos (starEach [e] env)) (backToKw pos (keywordEach [kw] env))) Q E s := by
  rw [he] at h ⊢
  have h2 := evalArgs_kwB (f := .type T) (Q := fun a s1 => wpAny M A (call (.type T) ([] ++ a.pos) a.kw) Q E s1) hall h
  unfold callWith
  refine wpAny_bind (wpAny_holding (wpAny_mono h2 (fun a s1 h1 => wpAny_bind (wpAny_standAt ?_)) (fun _ _ x => x)))
  simp only [List.any_cons, List.any_nil, hkw, Bool.or_false]
  refine wpAny_bind (wpAny_pure ?_)
  exact wpAny_bind (wpAny_mono h1 (fun r s2 hr => wpAny_bind (wpAny_holding (wpAny_point (wpAny_pure hr)))) (fun _ _ x => x))
def iEnumS (K : PySem.W.Frag) (te tz : TE) : TI := fun σ H R => te σ H fun x H1 => tz σ H1 fun y H2 => ∃ a xs z, x = .ref a ∧ y = .int z ∧ SqL K H2 a xs ∧ -(2 ^ 63) ≤ z ∧ z < 2 ^ 63 ∧ R (Itn K a z) H2
theorem pi_enumS {X : Cx} {e ez : Expr} {te tz : TE} {p pos tpos kp : Pos} {elts : List Expr} {kk : Nat} (hg : Gl X "enumerate") (hm : X.mg "enumerate" = none) (he : PE X e te) (hz : PE X ez tz)
    (hs : starEach [e] X.env = [(false, eval e X.env)] := by rfl)
    (hc : eval (.Call (.Name "enumerate" p) [e] [⟨some "start", ez, kp⟩] pos) X.env = (do
      let f ← eval (.Name "enumerate" p) X.env
      callWith pos f [] (backTo pos (starEach [e] X.env)) (backToKw pos (keywordEach [⟨some "start", ez, kp⟩] X.env))) := by rfl) :
    PI X (.Tuple elts kk tpos) (.Call (.Name "enumerate" p) [e] [⟨some "start", ez, kp⟩] pos) (iEnumS X.K te tz) := by
  refine ⟨fun pins s σ H R I h => ?_⟩
  rw [hc]
  refine wpAny_bind (ld_blt I hg hm boot_enumerate ?_)
  refine callWith_tyKw ?_ (by rw [hs]; rfl) rfl rfl
  rw [hs]
  refine PySem.Calls.spliced_cons (thn (he.run pins s σ H _ I h) fun u s1 ⟨x, H1, I1, r1, q1⟩ => PySem.Calls.spliced_nil ?_)
  refine kws_cons (thn (hz.run pins s1 σ H1 _ I1 q1) fun zu s2 ⟨y, H2, I2, r2, q2⟩ => kws_nil ?_)
  obtain ⟨a, xs, z, ex, ey, hq, hz0, hz1, q⟩ := q2
  subst ex ey
  cases r1
  obtain ⟨t, rfl⟩ := r2
  obtain ⟨its, rv, p', hzz⟩ := I2.list hq
  show wpAny _ _ (call (.type "enumerate") [.ref a] [(Str.ofString "start", .int z t)]) _ _ s2
  refine enum_begins_start (begins_list a its.toArray) p'.isList hz0 hz1 fun h' hen hit hsz hk => wpAny_pyIter_enum hen ?_
  have I3 : Inv X pins σ H2 { s2 with heap := h' } := I2.kept (t' := s2.toks) hk
  have hal : a < s2.heap.objs.size := by
    obtain ⟨o, e, _⟩ := p'.isList
    exact Heap.lt_size e
  refine ⟨s2.heap.objs.size + 1, [s2.heap.objs.size + 1, s2.heap.objs.size], _, _, H2, rfl, I3, turn_enumS a (s2.heap.objs.size + 1) s2.heap.objs.size z,
    ⟨⟨.none, by simpa using hen⟩, ⟨_, hit, rfl, rfl⟩, Nat.succ_ne_self _, Nat.ne_of_lt hal, Nat.ne_of_lt (Nat.lt_succ_of_lt hal)⟩, fun b hb => ?_, q⟩
  have hle : s2.heap.objs.size ≤ b := by
    rcases List.mem_cons.mp hb with v | v
    · rw [v]; exact Nat.le_add_right _ _
    · rw [List.mem_singleton.mp v]; exact Nat.le_refl _
  exact I2.fpOk hle (I2.hok.fresh hle)
/-- such a loop, by what holds ahead of each turn -/
theorem for_enumS {K : PySem.W.Frag} {a : Addr} {z : Int} {xs : List V} {g : TG} {tb : TS} {D : Ends} {σ : L2.St} {H : Hp} (Pv : Nat → L2.St → Hp → Prop) (h0 : Pv 0 σ H) (hl : ∀ i σ H, i ≤ xs.length → Pv i σ H → SqL K H a xs)
    (hs : ∀ i x σ H T, xs[i]? = some x → Pv i σ H → H T = none → g (.ref T) σ (upd H T (.tup [.int (z + (i : Nat)), x])) fun σ2 H2 => tb { D with nx := Pv (i + 1), ct := Pv (i + 1), bk := D.nx } σ2 H2) (hd : ∀ σ H, Pv xs.length σ H → D.nx σ H) :
    ∃ W : Nat → Nat → L2.St → Hp → Prop, (∃ m, W 0 m σ H) ∧ ∀ i m σ H, W i m σ H →
      ((Itn K a z).stop i H ∧ D.nx σ H) ∨ ((Itn K a z).go i H ∧ ∃ N : L2.St → Hp → Prop, (∀ σ' H', N σ' H' → ∃ m', m' < m ∧ W (i + 1) m' σ' H') ∧ ∀ x H', (Itn K a z).yld i H x H' → g x σ H' fun σ2 H2 => tb { D with nx := N, ct := N, bk := D.nx } σ2 H2) := by
  refine ⟨fun i m σ H => m = xs.length - i ∧ i ≤ xs.length ∧ Pv i σ H, ⟨xs.length, by simp, Nat.zero_le _, h0⟩, ?_⟩
  rintro i m σ H ⟨rfl, hi, p⟩
  have q := hl i σ H hi p
  by_cases hlt : i < xs.length
  · refine .inr ⟨⟨xs, xs[i], q, by simp [hlt]⟩, Pv (i + 1), fun σ' H' p' => ⟨xs.length - (i + 1), by omega, rfl, hlt, p'⟩, ?_⟩
    rintro x H' ⟨T, y, rfl, hT, rfl, hy⟩
    exact hs i y σ H T (hy xs q) p hT
  · have e : i = xs.length := by omega
    subst e
    exact .inl ⟨⟨xs, q, rfl⟩, hd σ H p⟩
/-- the same from nothing on -/
theorem for_enum {K : PySem.W.Frag} {a : Addr} {xs : List V} {g : TG} {tb : TS} {D : Ends} {σ : L2.St} {H : Hp} (Pv : Nat → L2.St → Hp → Prop) (h0 : Pv 0 σ H) (hl : ∀ i σ H, i ≤ xs.length → Pv i σ H → SqL K H a xs)
    (hs : ∀ i x σ H T, xs[i]? = some x → Pv i σ H → H T = none → g (.ref T) σ (upd H T (.tup [.int (i : Nat), x])) fun σ2 H2 => tb { D with nx := Pv (i + 1), ct := Pv (i + 1), bk := D.nx } σ2 H2) (hd : ∀ σ H, Pv xs.length σ H → D.nx σ H) :
    ∃ W : Nat → Nat → L2.St → Hp → Prop, (∃ m, W 0 m σ H) ∧ ∀ i m σ H, W i m σ H →
      ((Ite K a).stop i H ∧ D.nx σ H) ∨ ((Ite K a).go i H ∧ ∃ N : L2.St → Hp → Prop, (∀ σ' H', N σ' H' → ∃ m', m' < m ∧ W (i + 1) m' σ' H') ∧ ∀ x H', (Ite K a).yld i H x H' → g x σ H' fun σ2 H2 => tb { D with nx := N, ct := N, bk := D.nx } σ2 H2) := by
  refine ⟨fun i m σ H => m = xs.length - i ∧ i ≤ xs.length ∧ Pv i σ H, ⟨xs.length, by simp, Nat.zero_le _, h0⟩, ?_⟩
  rintro i m σ H ⟨rfl, hi, p⟩
  have q := hl i σ H hi p
  by_cases hlt : i < xs.length
  · refine .inr ⟨⟨xs, xs[i], q, by simp [hlt]⟩, Pv (i + 1), fun σ' H' p' => ⟨xs.length - (i + 1), by omega, rfl, hlt, p'⟩, ?_⟩
    rintro x H' ⟨T, y, rfl, hT, rfl, hy⟩
    exact hs i y σ H T (hy xs q) p hT
  · have e : i = xs.length := by omega
    subst e
    exact .inl ⟨⟨xs, q, Nat.le_refl _⟩, hd σ H p⟩
end Mx

namespace L2
open PySem PySem.Spec PyProof.Rows
/-! ### x, *y = a tuple -/
section
variable {prog : Program} {w : World} {A : Around} {E : Value → Shared → Prop} {s : Shared}
theorem unpack_star1 {l : Addr} {u : Value} {us : List Value} {Q : List Value → Shared → Prop} (hl : IsTup s.heap l (u :: us).toArray) (hh : A.handled = none) (hz : us.length < sizeLine)
    (h : ∀ h' tk, Heap.ExtBut s.heap.objs.size s.heap h' → Q [u, .ref h'.objs.size] { s with heap := h'.push (seqObj "list" us.toArray 0), toks := tk }) : wpAny (model prog w) A (unpackItems (.ref l) 2 (some 1)) Q E s := by
  have hlt : l ≠ s.heap.objs.size := by obtain ⟨o, ho, _⟩ := hl; exact Nat.ne_of_lt (Heap.lt_size ho)
  have hll : l < s.heap.objs.size := by obtain ⟨o, ho, _⟩ := hl; exact Heap.lt_size ho
  unfold unpackItems
  refine wpAny_bind ?_
  unfold notIterableAtAll
  refine wpAny_bind (wpAny_specialOf hl.typeIs slot_tuple_iter.lookup ?_)
  refine wpAny_pure ?_
  simp only [Bool.false_eq_true, if_false]
  refine wpAny_bind (wpAny_holding (iter_tuple hl ?_))
  refine wpAny_bind (wpAny_holding (draw_tuple hlt 1 0 _ _ ⟨_, Heap.get?_push_size _ rfl, rfl, rfl⟩ (hl.push _) (by simp) fun h₁ hit₁ hs₁ => ?_))
  have hl₁ : IsTup h₁ l (u :: us).toArray := (hl.push _).extBut hs₁.extBut hlt
  rw [Nat.zero_add] at hit₁
  have hit₁' := hit₁
  obtain ⟨oi, hoi, _⟩ := hit₁'
  have hl₁' := hl₁
  obtain ⟨ol, hol, _⟩ := hl₁'
  rw [show (List.take 1 (List.drop 0 (u :: us).toArray.toList)) = [u] from rfl]
  rw [if_neg (by simp)]
  refine wpAny_bind (wpAny_holding (PySem.W.kun_collect (s := { s with heap := h₁ }) (T := "tuple_iterator") (.inr (.inr (.inr rfl))) (Walks.tuple (A := A.in1) hh s.heap.objs.size l hlt (u :: us).toArray) (fun j u st => st.1.typeIs) (k := 1) (by simp) ⟨hit₁, hl₁⟩ (Heap.lt_size hoi) (Heap.lt_size hol) (fun h₂ tk hk => ?_) (by simp only [List.size_toArray, List.length_cons]; omega)))
  show wpAny _ _ (if us.length < 2 - 1 - 1 then _ else _) _ _ _
  rw [if_neg (by omega)]
  show wpAny _ _ (newList (us.take (us.length - (2 - 1 - 1))) >>= fun d => pure ([u] ++ [d] ++ us.drop (us.length - (2 - 1 - 1)))) _ _ _
  have he : Heap.ExtBut s.heap.objs.size s.heap h₂ := fun b o hb e => hk b o hb (hs₁.extBut b o hb (Heap.get?_push_of_some _ e))
  have e1 : us.take (us.length - (2 - 1 - 1)) = us := List.take_of_length_le (by omega)
  have e2 : us.drop (us.length - (2 - 1 - 1)) = [] := List.drop_of_length_le (by omega)
  rw [e1, e2]
  exact wpAny_bind (wpAny_newList (wpAny_pure (h h₂ tk he)) (by omega))
end
def gStar1 (K : PySem.W.Frag) (i j : Nat) : TG := fun v σ H Q => ∃ a x xs, v = .ref a ∧ SqT K H a (x :: xs) ∧ ∀ p, H p = none → Q ((σ.set i (some x)).set j (some (.ref p))) (upd H p (.lst xs))
section
variable {X : Cx}
theorem pg_star1 {x y : Str} {p1 p2 p3 pos : Pos} {k i j : Nat} (hc : X.calm = true) (hN : X.N.Nodup) (hi : X.N[i]? = some x) (hx : Loc X.env.scope x) (hj : X.N[j]? = some y) (hy : Loc X.env.scope y)
    (hf : X.fn x = true ∨ X.env.scope.names.lookup x = some .local := by first | exact .inl rfl | exact .inr rfl) (hf2 : X.fn y = true ∨ X.env.scope.names.lookup y = some .local := by first | exact .inl rfl | exact .inr rfl)
    (he : assignEach [.Name x p1, .Starred (.Name y p2) p3] X.env = [(false, assign (.Name x p1) X.env), (true, assign (.Name y p2) X.env)] := by rfl) : PG X (.Tuple [.Name x p1, .Starred (.Name y p2) p3] k pos) (gStar1 X.K i j) := by
  refine ⟨fun pins s σ H v u Q I r h => ?_⟩
  obtain ⟨a, z, zs, rfl, hq, q⟩ := h
  obtain rfl : u = Value.ref a := r
  obtain ⟨its, rv, ht, hz⟩ := I.tuple hq
  cases rv with
  | cons rz rr =>
    have hl := rr.length
    have hn := line63
    rw [assign_Tuple]
    refine wpAny_bind (wpAny_standAt ?_)
    unfold unpack
    rw [he]
    refine wpAny_bind (wpAny_holding (unpack_star1 ht (I.ok.hd hc) (by rw [← hl]; simp only [List.length_cons] at hz; omega) fun h' tk hx' => ?_))
    have I1 : Inv X pins σ H { s with heap := h', toks := tk } := I.kept (t' := tk) fun b o e => hx' b o (Nat.ne_of_lt (Heap.lt_size e)) e
    have hp : H h'.objs.size = none := I1.hok.fresh (Nat.le_refl _)
    have I2 := I1.laid (h' := h'.push (seqObj "list" _ 0)) (t' := tk) (fun b o e => Heap.get?_push_of_some _ e) (Nat.le_refl _) (show ObjOk X.prog X.w _ _ h'.objs.size (.lst zs) from ⟨by simp only [List.length_cons] at hz; omega, _, 0, rr, Heap.get?_push_size _ rfl⟩)
    refine assignInOrder_cons (wpAny_assign_Name (store_ok I2 hN hi hx rz (fun s3 I3 => ?_) hf))
    refine assignInOrder_cons (wpAny_assign_Name (store_ok I3 hN hj hy (v := .ref h'.objs.size) rfl (fun s4 I4 => ?_) hf2))
    exact assignInOrder_nil ⟨_, _, I4, q _ hp⟩
end
end L2

namespace Mx
open PySem L2
def top (i : Nat) : Stmt := PySem.Challenge.pw_mixserver_k19_texts_refused.main.body.getD i (.Pass ⟨0, 0, 0, 0⟩)
abbrev s_BadArrivals_init : Stmt := inClass (top 12) 0
abbrev s_BadDeed_init : Stmt := inClass (top 13) 0
abbrev s_BadText_init : Stmt := inClass (top 14) 0
abbrev s_is_whole : Stmt := top 16
abbrev s_is_deed : Stmt := top 20
abbrev s_are_plain : Stmt := top 21
abbrev s_is_parcel : Stmt := top 22
abbrev s_deed_of : Stmt := top 25
abbrev s_number_of : Stmt := top 26
abbrev s_read : Stmt := top 28
abbrev s_law_taken : Stmt := top 30
abbrev s_law_alike : Stmt := top 31
abbrev s_law_word : Stmt := top 32
abbrev s_law_number : Stmt := top 33
abbrev s_law_steps : Stmt := top 34
abbrev s_law_text : Stmt := top 35
abbrev s_law_figures : Stmt := top 36
abbrev s_law_read : Stmt := top 37
abbrev s_law_spoilt : Stmt := top 38
abbrev s_law : Stmt := top 39
end Mx

namespace Mx
open PySem L2
set_option hygiene false in
local macro_rules | `(tactic| walk_at "rd") => `(tactic| try simp only [L2.start, List.map_cons, List.map_nil, List.length_cons, List.length_nil, Nat.reduceAdd, Nat.reduceSub, Nat.reduceLT, Nat.reduceLeDiff, List.replicate_succ, List.replicate_zero, List.append_nil, List.nil_append, List.cons_append, List.set_cons_zero, List.set_cons_succ, List.getElem?_cons_zero, List.getElem?_cons_succ,
  Option.some.injEq, List.cons.injEq, and_true, true_and, and_assoc, reduceCtorEq, L2.V.int.injEq, L2.V.ref.injEq, L2.V.bl.injEq, L2.V.str.injEq, L2.V.ty.injEq, L2.HO.ins.injEq, L2.HO.lst.injEq, L2.HO.tup.injEq, L2.HO.dK.injEq, exists_eq_left', exists_eq_left, exists_eq_right, exists_eq', exists_eq, exists_and_left, exists_and_right, reduceIte, Bool.false_eq_true, Bool.not_true, Bool.not_false,
  L2.tSeq, L2.tIfS, L2.tRet, L2.tRetN, L2.tNext, L2.tAsg, L2.gName, L2.tVar, L2.tC, L2.tCons, L2.tNil, L2.tCB, L2.tOp, L2.tUn, L2.tTup, L2.tLst, L2.tB, L2.tOr, L2.tAnd, L2.tNot, L2.tAndV, L2.tOrV, L2.tNotV, L2.tIf, L2.tTest, L2.tChain, L2.rI, L2.rI0, L2.rU, L2.tDrop, L2.tNever, L2.tCall, L2.tMeth, L2.tMake, L2.rGcd, L2.tFld, L2.sFld, L2.sFldAug, Mx.sFldA, Mx.sFldAugA, L2.rAdd, L2.rSub, L2.rEq, L2.rNe, L2.tDGet, L2.tDIn, L2.tDNotIn, L2.sDPut,
  Mx.isi_int_bool, Mx.isi_int_int, Mx.isi_int_tuple, Mx.isi_int_list, Mx.isi_int_str, Mx.scal_int, Mx.scal_str, Mx.scal_bl, Mx.ofString_inj, Mx.ofString_beq, Mx.lk_cons, Mx.pf_nil, Mx.pf_cons, Mx.sz1, Mx.sz2, List.lookup_nil, String.reduceEq, decide_true, decide_false, decide_eq_true_eq, Int.natAbs_natCast, L2.upd_same, L2.upd_upd, L2.cxOf])
set_option hygiene false in
local macro_rules | `(tactic| walk_at "rds") => `(tactic| try simp only [L2.start, List.map_cons, List.map_nil, List.length_cons, List.length_nil, Nat.reduceAdd, Nat.reduceSub, Nat.reduceLT, Nat.reduceLeDiff, List.replicate_succ, List.replicate_zero, List.append_nil, List.nil_append, List.cons_append, List.set_cons_zero, List.set_cons_succ, List.getElem?_cons_zero, List.getElem?_cons_succ,
  Option.some.injEq, List.cons.injEq, and_true, true_and, and_assoc, reduceCtorEq, L2.V.int.injEq, L2.V.ref.injEq, L2.V.bl.injEq, L2.V.str.injEq, L2.V.ty.injEq, L2.HO.ins.injEq, L2.HO.lst.injEq, L2.HO.tup.injEq, L2.HO.dK.injEq, exists_eq_left', exists_eq_left, exists_eq_right, exists_eq', exists_eq, exists_and_left, exists_and_right, reduceIte, Bool.false_eq_true, Bool.not_true, Bool.not_false,
  L2.tSeq, L2.tIfS, L2.tRet, L2.tRetN, L2.tNext, L2.tAsg, L2.gName, L2.tVar, L2.tC, L2.tCons, L2.tNil, L2.tCB, L2.tOp, L2.tUn, L2.tTup, L2.tLst, L2.tB, L2.tOr, L2.tAnd, L2.tNot, L2.tAndV, L2.tOrV, L2.tNotV, L2.tIf, L2.tTest, L2.tChain, L2.rI, L2.rI0, L2.rU, L2.tDrop, L2.tNever, L2.tCall, L2.tMeth, L2.tMake, L2.rGcd, L2.tFld, L2.sFld, L2.sFldAug, Mx.sFldA, Mx.sFldAugA, L2.rAdd, L2.rSub, L2.rEq, L2.rNe, L2.tDGet, L2.tDIn, L2.tDNotIn, L2.sDPut,
  Mx.isi_int_bool, Mx.isi_int_int, Mx.isi_int_tuple, Mx.isi_int_list, Mx.isi_int_str, Mx.scal_int, Mx.scal_str, Mx.scal_bl, Mx.ofString_inj, Mx.ofString_beq, Mx.lk_cons, Mx.pf_nil, Mx.pf_cons, Mx.sz1, Mx.sz2, List.lookup_nil, String.reduceEq, decide_true, decide_false, decide_eq_true_eq, Int.natAbs_natCast, L2.upd_same, L2.upd_upd, L2.cxOf, *])

/-- the built-in names that the program leaves as they are -/
structure Blt (mg : Str → Option Value) : Prop where
  isi : mg "isinstance" = none
  bool : mg "bool" = none
  int : mg "int" = none
  tuple : mg "tuple" = none
  len : mg "len" = none
  all : mg "all" = none
  any : mg "any" = none
  max : mg "max" = none
  divmod : mg "divmod" = none
  enumerate : mg "enumerate" = none
  sorted : mg "sorted" = none
  list : mg "list" = none
  range : mg "range" = none
  abs : mg "abs" = none
  str : mg "str" = none
section
variable {P : Program} {w : World} {K : PySem.W.Frag} {mg : Str → Option Value} {base : Heap}
/-! ### a name that is a built-in class, as a value -/
section
variable {X : Cx} {e1 e2 : Expr} {t1 t2 : TE} {p pos : Pos}
theorem b_isi {T : String} {x : Str} {q : Pos} (B : Blt X.mg) (h1 : PE X e1 t1) (h : X.mg x = none) (hb : bootBuiltins x = some (.type T)) (hx : x ≠ "__name__" := by decide) (hd : (x == ("__debug__" : Str)) = false := by decide) (hg : Gl X "isinstance" := by rfl) (hg2 : Gl X x := by rfl)
    (he : starEach [e1, .Name x q] X.env = (false, eval e1 X.env) :: starEach [.Name x q] X.env := by rfl)
    (he2 : starEach [.Name x q] X.env = (false, eval (.Name x q) X.env) :: starEach [] X.env := by rfl)
    (hpl : (backTo pos (starEach [.Name x q] X.env)).any (·.1) = false := by rfl) :
    PE X (.Call (.Name "isinstance" p) [e1, .Name x q] [] pos) (tCB (rIsi X.K) (tCons t1 (tCons (tC (.ty T)) tNil))) :=
  pe_callB call_isi hg B.isi PyProof.Rows.boot_isinstance (pa_cons h1 (pa_cons (pe_bltn (v := .ty T) hg2 h hb rfl hx hd) pa_nil he2) he) (he := he) (hpl := hpl)
end

/-! ### is_whole -/
def sp_is_whole : Sp := fun vs H Q _ => ∃ (n lo hi : Int), vs = [.int n, .int lo, .int hi] ∧ Q (.bl (decide (lo ≤ n ∧ n ≤ hi))) H
theorem sc_is_whole : FnScope ["number", "low", "high"] ["number", "low", "high"] (defScope s_is_whole) := ⟨rfl, rfl, rfl, by decide +kernel, rfl, by decide +kernel, by decide +kernel⟩
theorem ok_is_whole {f : Addr} {fd : FuncData} (F : Fun K "is_whole" "is_whole" s_is_whole f fd) (B : Blt mg) : FnOk P w K mg base CX0 1 f fd ["number", "low", "high"] sp_is_whole := by
  refine F.ok sc_is_whole (fun vs H Q E h => ?_) (fun cdv A outer s H vs Q E hr h => ?_)
  · obtain ⟨n, lo, hi, rfl, _⟩ := h
    rfl
  · obtain ⟨n, lo, hi, rfl, k⟩ := h
    refine ⟨_, pss_cons (ps_if (PW.pt (pw_or (pt_val (b_isi B (pv 0) B.bool PyProof.Rows.boot_bool)) (pw_or1 (pt_not (pt_val (b_isi B (pv 0) B.int PyProof.Rows.boot_int))))))
        (pss_one (ps_ret pe_bl)) pss_nil)
      (pss_one (ps_ret (pe_chain op_le op_le (pv 1) (pv 0) (pv 2)))), ?_⟩
    walk_at "rd"
    by_cases h1 : lo ≤ n
    · rw [if_pos h1]
      rw [show (decide (n ≤ hi)) = decide (lo ≤ n ∧ n ≤ hi) from by simp [h1]]
      exact k
    · rw [if_neg (by simpa using h1)]
      rw [show (false) = decide (lo ≤ n ∧ n ≤ hi) from by simp [h1]]
      exact k

/-! ### ratio, plus, times, minus -/
def frac (q : Rat) : List V := [.int q.num, .int (q.den : Int)]
def sp_ratio : Sp := fun vs H Q _ => ∃ (t b : Int), vs = [.int t, .int b] ∧ 0 < b ∧ b.natAbs < 2 ^ 9000 ∧
  ∀ p H', H p = none → Stp [] H H' → H' p = some (.tup (frac (mkRat t b.toNat))) → Q (.ref p) H'
/-- of two fractions a third: a new tuple -/
def sp_two (g : Rat → Rat → Rat) (K : PySem.W.Frag) : Sp := fun vs H Q _ => ∃ (a b : Addr) (q r : Rat) (n m : Nat), vs = [.ref a, .ref b] ∧ TupAt K H a (frac q) ∧ TupAt K H b (frac r) ∧ Rb n q ∧ Rb m r ∧ n + m < 9000 ∧ 0 < n ∧ 0 < m ∧
  ∀ p H', H p = none → Stp [] H H' → H' p = some (.tup (frac (g q r))) → Q (.ref p) H'
theorem at0 {x : V} {r : List V} : atI (x :: r) 0 = some x := by
  show ((if (0 : Int) ≤ 0 then (if (0 : Int) < ((r.length + 1 : Nat) : Int) then some (0 : Int).toNat else none) else _ : Option Nat)).bind _ = _
  rw [if_pos (by decide), if_pos (by omega)]
  rfl
theorem at1 {x y : V} {r : List V} : atI (x :: y :: r) 1 = some y := by
  show ((if (0 : Int) ≤ 1 then (if (1 : Int) < ((r.length + 1 + 1 : Nat) : Int) then some (1 : Int).toNat else none) else _ : Option Nat)).bind _ = _
  rw [if_pos (by decide), if_pos (by omega)]
  rfl
theorem ixT_0 {H : Hp} {a : Addr} {x : V} {r : List V} {Q : VK} (h : TupAt K H a (x :: r)) (q : Q x H) : rIxT K (.ref a) (.int 0) H Q := ⟨a, _, 0, x, rfl, rfl, h.sq, at0, q⟩
theorem ixT_1 {H : Hp} {a : Addr} {x y : V} {r : List V} {Q : VK} (h : TupAt K H a (x :: y :: r)) (q : Q y H) : rIxT K (.ref a) (.int 1) H Q := ⟨a, _, 1, y, rfl, rfl, h.sq, at1, q⟩
end
end Mx

namespace Mx
open PySem L2
/-! ### the draws -/
/-- the row of draws at r: the script, where one is, what is mixed -/
def RowAt (K : PySem.W.Frag) (H : Hp) (r sc : Addr) (ns : List Int) : Prop := ∃ pos mix : Int, 0 ≤ pos ∧ 0 ≤ mix ∧ mix < 2147483647 ∧ H r = some (.lst [.ref sc, .int pos, .int mix]) ∧ SqL K H sc (ns.map V.int) ∧ (sc ≠ r ∨ ∀ H' : Hp, SqL K H' sc (ns.map V.int))
theorem seq_or {K : PySem.W.Frag} {H H' : Hp} {a r : Addr} {xs : List V} (h : SqL K H a xs) (s : Stp [r] H H') (n : a ≠ r ∨ ∀ H' : Hp, SqL K H' a xs) : SqL K H' a xs := n.elim (fun q => seq_st h s (by simpa using q)) fun q => q H'
theorem RowAt.st {K : PySem.W.Frag} {F : List Addr} {H H' : Hp} {r sc : Addr} {ns : List Int} (h : RowAt K H r sc ns) (s : Stp F H H') (h1 : r ∉ F) (h2 : sc ∉ F) : RowAt K H' r sc ns := by
  obtain ⟨pos, mix, p0, m0, m1, hr, hs, hn⟩ := h
  exact ⟨pos, mix, p0, m0, m1, s.keep _ _ hr h1, seq_st hs s h2, hn⟩
theorem RowAt.st0 {K : PySem.W.Frag} {H H' : Hp} {r sc : Addr} {ns : List Int} (h : RowAt K H r sc ns) (s : Stp [] H H') : RowAt K H' r sc ns := h.st s (by simp) (by simp)
def sp_taken (K : PySem.W.Frag) : Sp := fun vs H Q _ => ∃ (r sc : Addr) (ns : List Int) (many : Int), vs = [.ref r, .int many] ∧ RowAt K H r sc ns ∧ 1 ≤ many ∧ ∀ v H', 0 ≤ v → v < many → RowAt K H' r sc ns → Stp [r] H H' → Q (.int v) H'
theorem at3_0 {x y z : V} : atI [x, y, z] 0 = some x := rfl
theorem at3_1 {x y z : V} : atI [x, y, z] 1 = some y := rfl
theorem at3_2 {x y z : V} : atI [x, y, z] 2 = some z := rfl
theorem ixL {K : PySem.W.Frag} {H : Hp} {p : Addr} {xs : List V} {i : Int} {x : V} {Q : VK} (h : SqL K H p xs) (ha : atI xs i = some x) (q : Q x H) : rIxL K (.ref p) (.int i) H Q := ⟨p, xs, i, x, rfl, rfl, h, ha, q⟩
theorem setL {H : Hp} {p : Addr} {xs : List V} {i : Int} {j : Nat} {v : V} {Q : Hp → Prop} (h : H p = some (.lst xs)) (hi : ixN xs.length i = some j) (q : ∀ H', H' p = some (.lst (xs.set j v)) → Stp [p] H H' → Q H') : rSetL (.ref p) (.int i) v H Q :=
  ⟨p, xs, i, j, rfl, rfl, h, hi, q _ upd_same (Stp.put h fun xs z => nomatch z)⟩
theorem at_nat {ns : List Int} {i : Int} (h0 : 0 ≤ i) (h1 : i < ns.length) : ∃ n, n ∈ ns ∧ atI (ns.map V.int) i = some (.int n) := by
  have hl : i.toNat < ns.length := by omega
  refine ⟨ns[i.toNat], List.getElem_mem hl, ?_⟩
  unfold atI ixN
  rw [if_pos h0, List.length_map, if_pos h1]
  show (ns.map V.int)[i.toNat]? = _
  rw [List.getElem?_map, List.getElem?_eq_getElem hl]
  rfl
set_option hygiene false in
local macro_rules | `(tactic| walk_at "rd") => `(tactic| try simp only [L2.start, List.map_cons, List.map_nil, List.length_cons, List.length_nil, Nat.reduceAdd, Nat.reduceSub, Nat.reduceLT, Nat.reduceLeDiff, List.replicate_succ, List.replicate_zero, List.append_nil, List.nil_append, List.cons_append, List.set_cons_zero, List.set_cons_succ, List.getElem?_cons_zero, List.getElem?_cons_succ,
  Option.some.injEq, List.cons.injEq, and_true, true_and, and_assoc, reduceCtorEq, L2.V.int.injEq, L2.V.ref.injEq, L2.V.bl.injEq, L2.V.str.injEq, L2.V.ty.injEq, L2.HO.ins.injEq, L2.HO.lst.injEq, L2.HO.tup.injEq, L2.HO.dK.injEq, exists_eq_left', exists_eq_left, exists_eq_right, exists_eq', exists_eq, exists_and_left, exists_and_right, reduceIte, Bool.false_eq_true, Bool.not_true, Bool.not_false,
  L2.tSeq, L2.tIfS, L2.tRet, L2.tRetN, L2.tNext, L2.tAsg, L2.gName, L2.tVar, L2.tC, L2.tCons, L2.tNil, L2.tCB, L2.tOp, L2.tUn, L2.tTup, L2.tLst, L2.tB, L2.tOr, L2.tAnd, L2.tNot, L2.tAndV, L2.tOrV, L2.tNotV, L2.tIf, L2.tTest, L2.tChain, L2.rI, L2.rI0, L2.rU, L2.tDrop, L2.tNever, L2.tCall, L2.tMeth, L2.tMake, L2.rGcd, L2.tFld, L2.sFld, L2.sFldAug, Mx.sFldA, Mx.sFldAugA, L2.rAdd, L2.rSub, L2.rEq, L2.rNe, L2.tDGet, L2.tDIn, L2.tDNotIn, L2.sDPut,
  Mx.isi_int_bool, Mx.isi_int_int, Mx.isi_int_tuple, Mx.isi_int_list, Mx.isi_int_str, Mx.scal_int, Mx.scal_str, Mx.scal_bl, Mx.ofString_inj, Mx.ofString_beq, Mx.lk_cons, Mx.pf_nil, Mx.pf_cons, Mx.sz1, Mx.sz2, List.lookup_nil, String.reduceEq, decide_true, decide_false, decide_eq_true_eq, Int.natAbs_natCast, L2.upd_same, L2.upd_upd, L2.cxOf, L2.gSub])
set_option hygiene false in
local macro_rules | `(tactic| walk_at "rds") => `(tactic| try simp only [L2.start, List.map_cons, List.map_nil, List.length_cons, List.length_nil, Nat.reduceAdd, Nat.reduceSub, Nat.reduceLT, Nat.reduceLeDiff, List.replicate_succ, List.replicate_zero, List.append_nil, List.nil_append, List.cons_append, List.set_cons_zero, List.set_cons_succ, List.getElem?_cons_zero, List.getElem?_cons_succ,
  Option.some.injEq, List.cons.injEq, and_true, true_and, and_assoc, reduceCtorEq, L2.V.int.injEq, L2.V.ref.injEq, L2.V.bl.injEq, L2.V.str.injEq, L2.V.ty.injEq, L2.HO.ins.injEq, L2.HO.lst.injEq, L2.HO.tup.injEq, L2.HO.dK.injEq, exists_eq_left', exists_eq_left, exists_eq_right, exists_eq', exists_eq, exists_and_left, exists_and_right, reduceIte, Bool.false_eq_true, Bool.not_true, Bool.not_false,
  L2.tSeq, L2.tIfS, L2.tRet, L2.tRetN, L2.tNext, L2.tAsg, L2.gName, L2.tVar, L2.tC, L2.tCons, L2.tNil, L2.tCB, L2.tOp, L2.tUn, L2.tTup, L2.tLst, L2.tB, L2.tOr, L2.tAnd, L2.tNot, L2.tAndV, L2.tOrV, L2.tNotV, L2.tIf, L2.tTest, L2.tChain, L2.rI, L2.rI0, L2.rU, L2.tDrop, L2.tNever, L2.tCall, L2.tMeth, L2.tMake, L2.rGcd, L2.tFld, L2.sFld, L2.sFldAug, Mx.sFldA, Mx.sFldAugA, L2.rAdd, L2.rSub, L2.rEq, L2.rNe, L2.tDGet, L2.tDIn, L2.tDNotIn, L2.sDPut,
  Mx.isi_int_bool, Mx.isi_int_int, Mx.isi_int_tuple, Mx.isi_int_list, Mx.isi_int_str, Mx.scal_int, Mx.scal_str, Mx.scal_bl, Mx.ofString_inj, Mx.ofString_beq, Mx.lk_cons, Mx.pf_nil, Mx.pf_cons, Mx.sz1, Mx.sz2, List.lookup_nil, String.reduceEq, decide_true, decide_false, decide_eq_true_eq, Int.natAbs_natCast, L2.upd_same, L2.upd_upd, L2.cxOf, L2.gSub, *])

section
variable {P : Program} {w : World} {K : PySem.W.Frag} {mg : Str → Option Value} {base : Heap}
theorem sc_law_taken : FnScope ["_law_row", "_law_many", "_law_cell"] ["_law_row", "_law_many"] (defScope s_law_taken) := ⟨rfl, rfl, rfl, by decide +kernel, rfl, by decide +kernel, by decide +kernel⟩
theorem ok_law_taken {f : Addr} {fd : FuncData} (F : Fun K "_law_taken" "_law_taken" s_law_taken f fd) (B : Blt mg) : FnOk P w K mg base CX0 1 f fd ["_law_row", "_law_many"] (sp_taken K) := by
  refine F.ok sc_law_taken (fun vs H Q E h => ?_) (fun cdv A outer s H vs Q E hr h => ?_)
  · obtain ⟨r, sc, ns, many, rfl, _⟩ := h
    rfl
  · obtain ⟨r, sc, ns, many, rfl, ⟨pos, mix, p0, m0, m1, hR, hS, hn⟩, h1, k⟩ := h
    refine ⟨_, pss_cons (ps_asg (pe_op op_add (pe_ix ix_list (pv 0) pe_int (fun _ _ => rfl)) pe_int) (pg_sub (pv 0) pe_int set_list))
      (pss_cons (ps_if (pt_cmpR op_gt (pe_ix ix_list (pv 0) pe_int (fun _ _ => rfl)) (pe_callB call_len_seq (by rfl) B.len PySem.boot_len (pa_cons (pe_ix ix_list (pv 0) pe_int (fun _ _ => rfl)) pa_nil)) (nomark _))
        (pss_cons (ps_asg (pe_op op_mod (pe_op op_add (pe_op op_mul (pe_ix ix_list (pv 0) pe_int (fun _ _ => rfl)) pe_int) pe_int) pe_int) (pg_sub (pv 0) pe_int set_list))
          (pss_one (ps_ret (pe_op op_mod (pe_op op_fdiv (pe_ix ix_list (pv 0) pe_int (fun _ _ => rfl)) pe_int) (pv 1))))) pss_nil)
      (pss_cons (ps_set (i := 2) sc_law_taken.nd rfl (.inl rfl) (pe_ix ix_list (pe_ix ix_list (pv 0) pe_int (fun _ _ => rfl)) (pe_op op_sub (pe_ix ix_list (pv 0) pe_int (fun _ _ => rfl)) pe_int) (fun _ _ => rfl)))
      (pss_cons (ps_asg (pe_op op_mod (pe_op op_add (pe_op op_add (pe_op op_mul (pe_ix ix_list (pv 0) pe_int (fun _ _ => rfl)) pe_int) (pv 2)) pe_int) pe_int) (pg_sub (pv 0) pe_int set_list))
      (pss_one (ps_ret (pe_op op_mod (pv 2) (pv 1)))))))
      , ?_⟩
    walk_at "rd"
    refine ixL (.inl (.inl hR)) at3_1 ?_
    walk_at "rd"
    refine setL hR (j := 1) rfl fun H1 g1 s1 => ?_
    have hS1 := seq_or hS s1 hn
    refine ixL (.inl (.inl g1)) at3_1 (ixL (.inl (.inl g1)) at3_0 ?_)
    walk_at "rd"
    refine ⟨_, .inl hS1, ?_⟩
    by_cases hp : pos + 1 > (((ns.map V.int).length : Nat) : Int)
    · walk_at "rd"
      rw [if_pos hp]
      refine ixL (.inl (.inl g1)) at3_2 ?_
      walk_at "rd"
      refine ⟨.inl ⟨by omega, by omega⟩, by decide, ?_⟩
      refine setL g1 (j := 2) rfl fun H2 g2 s2 => ?_
      refine ixL (.inl (.inl g2)) at3_2 ?_
      walk_at "rd"
      have e0 := Int.emod_nonneg (mix * 48271 + 11) (show (2147483647 : Int) ≠ 0 by decide)
      have e1 := Int.emod_lt_of_pos (mix * 48271 + 11) (show (0 : Int) < 2147483647 by decide)
      refine ⟨⟨by decide, by decide⟩, by omega, ?_⟩
      exact k _ H2 (Int.emod_nonneg _ (by omega)) (Int.emod_lt_of_pos _ (by omega)) ⟨pos + 1, _, by omega, e0, e1, g2, seq_or hS1 s2 hn, hn⟩ ((s1.trans s2).sub (by simp))
    · walk_at "rd"
      rw [if_neg hp]
      rw [List.length_map] at hp
      obtain ⟨n, _, hat⟩ := at_nat (ns := ns) (i := pos) p0 (by omega)
      refine ixL (.inl (.inl g1)) at3_0 (ixL (.inl (.inl g1)) at3_1 ?_)
      walk_at "rd"
      refine ixL hS1 (i := pos + 1 - 1) (by rw [show pos + 1 - 1 = pos by omega]; exact hat) ?_
      refine ixL (.inl (.inl g1)) at3_2 ?_
      walk_at "rd"
      refine ⟨.inl ⟨by omega, by omega⟩, by decide, ?_⟩
      refine setL g1 (j := 2) rfl fun H2 g2 s2 => ?_
      walk_at "rd"
      have e0 := Int.emod_nonneg (mix * 48271 + n + 11) (show (2147483647 : Int) ≠ 0 by decide)
      have e1 := Int.emod_lt_of_pos (mix * 48271 + n + 11) (show (0 : Int) < 2147483647 by decide)
      refine ⟨by omega, ?_⟩
      exact k _ H2 (Int.emod_nonneg _ (by omega)) (Int.emod_lt_of_pos _ (by omega)) ⟨pos + 1, _, by omega, e0, e1, g2, seq_or hS1 s2 hn, hn⟩ ((s1.trans s2).sub (by simp))
end
end Mx

namespace Mx
open PySem L2
set_option hygiene false in
local macro_rules | `(tactic| walk_at "rd") => `(tactic| try simp only [L2.start, List.map_cons, List.map_nil, List.length_cons, List.length_nil, Nat.reduceAdd, Nat.reduceSub, Nat.reduceLT, Nat.reduceLeDiff, List.replicate_succ, List.replicate_zero, List.append_nil, List.nil_append, List.cons_append, List.set_cons_zero, List.set_cons_succ, List.getElem?_cons_zero, List.getElem?_cons_succ,
  Option.some.injEq, List.cons.injEq, and_true, true_and, and_assoc, reduceCtorEq, L2.V.int.injEq, L2.V.ref.injEq, L2.V.bl.injEq, L2.V.str.injEq, L2.V.ty.injEq, L2.HO.ins.injEq, L2.HO.lst.injEq, L2.HO.tup.injEq, L2.HO.dK.injEq, exists_eq_left', exists_eq_left, exists_eq_right, exists_eq', exists_eq, exists_and_left, exists_and_right, reduceIte, Bool.false_eq_true, Bool.not_true, Bool.not_false,
  L2.tSeq, L2.tIfS, L2.tRet, L2.tRetN, L2.tNext, L2.tAsg, L2.gName, L2.tVar, L2.tC, L2.tCons, L2.tNil, L2.tCB, L2.tOp, L2.tUn, L2.tTup, L2.tLst, L2.tB, L2.tOr, L2.tAnd, L2.tNot, L2.tAndV, L2.tOrV, L2.tNotV, L2.tIf, L2.tTest, L2.tChain, L2.rI, L2.rI0, L2.rU, L2.tDrop, L2.tNever, L2.tCall, L2.tMeth, L2.tMake, L2.rGcd, L2.tFld, L2.sFld, L2.sFldAug, Mx.sFldA, Mx.sFldAugA, L2.rAdd, L2.rSub, L2.rEq, L2.rNe, L2.tDGet, L2.tDIn, L2.tDNotIn, L2.sDPut,
  Mx.isi_int_bool, Mx.isi_int_int, Mx.isi_int_tuple, Mx.isi_int_list, Mx.isi_int_str, Mx.scal_int, Mx.scal_str, Mx.scal_bl, Mx.ofString_inj, Mx.ofString_beq, Mx.lk_cons, Mx.pf_nil, Mx.pf_cons, Mx.sz1, Mx.sz2, List.lookup_nil, String.reduceEq, decide_true, decide_false, decide_eq_true_eq, Int.natAbs_natCast, L2.upd_same, L2.upd_upd, L2.cxOf, L2.gSub])
set_option hygiene false in
local macro_rules | `(tactic| walk_at "rds") => `(tactic| try simp only [L2.start, List.map_cons, List.map_nil, List.length_cons, List.length_nil, Nat.reduceAdd, Nat.reduceSub, Nat.reduceLT, Nat.reduceLeDiff, List.replicate_succ, List.replicate_zero, List.append_nil, List.nil_append, List.cons_append, List.set_cons_zero, List.set_cons_succ, List.getElem?_cons_zero, List.getElem?_cons_succ,
  Option.some.injEq, List.cons.injEq, and_true, true_and, and_assoc, reduceCtorEq, L2.V.int.injEq, L2.V.ref.injEq, L2.V.bl.injEq, L2.V.str.injEq, L2.V.ty.injEq, L2.HO.ins.injEq, L2.HO.lst.injEq, L2.HO.tup.injEq, L2.HO.dK.injEq, exists_eq_left', exists_eq_left, exists_eq_right, exists_eq', exists_eq, exists_and_left, exists_and_right, reduceIte, Bool.false_eq_true, Bool.not_true, Bool.not_false,
  L2.tSeq, L2.tIfS, L2.tRet, L2.tRetN, L2.tNext, L2.tAsg, L2.gName, L2.tVar, L2.tC, L2.tCons, L2.tNil, L2.tCB, L2.tOp, L2.tUn, L2.tTup, L2.tLst, L2.tB, L2.tOr, L2.tAnd, L2.tNot, L2.tAndV, L2.tOrV, L2.tNotV, L2.tIf, L2.tTest, L2.tChain, L2.rI, L2.rI0, L2.rU, L2.tDrop, L2.tNever, L2.tCall, L2.tMeth, L2.tMake, L2.rGcd, L2.tFld, L2.sFld, L2.sFldAug, Mx.sFldA, Mx.sFldAugA, L2.rAdd, L2.rSub, L2.rEq, L2.rNe, L2.tDGet, L2.tDIn, L2.tDNotIn, L2.sDPut,
  Mx.isi_int_bool, Mx.isi_int_int, Mx.isi_int_tuple, Mx.isi_int_list, Mx.isi_int_str, Mx.scal_int, Mx.scal_str, Mx.scal_bl, Mx.ofString_inj, Mx.ofString_beq, Mx.lk_cons, Mx.pf_nil, Mx.pf_cons, Mx.sz1, Mx.sz2, List.lookup_nil, String.reduceEq, decide_true, decide_false, decide_eq_true_eq, Int.natAbs_natCast, L2.upd_same, L2.upd_upd, L2.cxOf, L2.gSub, *])

section
variable {P : Program} {w : World} {K : PySem.W.Frag} {mg : Str → Option Value} {base : Heap}
/-! ### a fraction in lowest terms, by taking rests -/
/-! ### numbers, paces, loudness -/
def sp_drawn (K : PySem.W.Frag) (lo hi : Int) : Sp := fun vs H Q _ => ∃ (r sc : Addr) (ns : List Int), vs = [.ref r] ∧ RowAt K H r sc ns ∧ ∀ v H', lo ≤ v → v ≤ hi → RowAt K H' r sc ns → Stp [r] H H' → Q (.int v) H'
theorem row_new {H : Hp} {r sc p : Addr} {ns : List Int} {o : HO} (h : RowAt K H r sc ns) (hp : H p = none) : RowAt K (upd H p o) r sc ns := h.st0 (Stp.new hp)
theorem sc_law_number : FnScope ["_law_row"] ["_law_row"] (defScope s_law_number) := ⟨rfl, rfl, rfl, by decide +kernel, rfl, by decide +kernel, by decide +kernel⟩
theorem ok_law_number {f : Addr} {fd : FuncData} (F : Fun K "_law_number" "_law_number" s_law_number f fd) (G : OwnF P w K mg base "_law_taken" 1 ["_law_row", "_law_many"] (sp_taken K)) : FnOk P w K mg base CX0 2 f fd ["_law_row"] (sp_drawn K (-999) 999) := by
  refine F.ok sc_law_number (fun vs H Q E h => ?_) (fun cdv A outer s H vs Q E hr h => ?_)
  · obtain ⟨r, sc, ns, rfl, _⟩ := h
    rfl
  · obtain ⟨r, sc, ns, rfl, hR, k⟩ := h
    refine ⟨_, pss_one (ps_ret (pe_ix ix_list (pe_lst (pa_cons (pe_op op_sub (p_call G hr (pa_cons (pv 0) (pa_cons pe_int pa_nil))) pe_int) (pa_cons (pe_op op_sub (p_call G hr (pa_cons (pv 0) (pa_cons pe_int pa_nil))) pe_int) pa_nil))) (p_call G hr (pa_cons (pv 0) (pa_cons pe_int pa_nil))) (fun _ _ => rfl))), ?_⟩
    walk_at "rd"
    refine ⟨r, sc, ns, 19, rfl, hR, by decide, fun a H1 a0 a1 hR1 s1 => ?_⟩
    walk_at "rd"
    refine ⟨r, sc, ns, 1999, rfl, hR1, by decide, fun b H2 b0 b1 hR2 s2 => ?_⟩
    walk_at "rd"
    intro p hp
    have s3 := Stp.new (o := .lst [.int (a - 9), .int (b - 999)]) hp
    refine ⟨r, sc, ns, 2, rfl, row_new hR2 hp, by decide, fun c H4 c0 c1 hR4 s4 => ?_⟩
    have hpr : p ≠ r := by
      obtain ⟨_, _, _, _, _, hr2, _⟩ := hR2
      exact (ne_of_none hr2 hp).symm
    have hl := s4.keep _ _ (upd_same (H := H2) (a := p) (o := .lst [.int (a - 9), .int (b - 999)])) (by simpa using hpr)
    have t4 := ((s1.trans s2).trans (s3.trans s4)).sub (G := [r]) (by simp)
    have hc : c = 0 ∨ c = 1 := by omega
    rcases hc with rfl | rfl
    · exact ixL (.inl (.inl hl)) (x := .int (a - 9)) rfl (k _ H4 (by omega) (by omega) hR4 t4)
    · exact ixL (.inl (.inl hl)) (x := .int (b - 999)) rfl (k _ H4 (by omega) (by omega) hR4 t4)
end
end Mx

namespace Mx
open PySem L2
set_option hygiene false in
local macro_rules | `(tactic| walk_at "rd") => `(tactic| try simp only [L2.start, List.map_cons, List.map_nil, List.length_cons, List.length_nil, Nat.reduceAdd, Nat.reduceSub, Nat.reduceLT, Nat.reduceLeDiff, List.replicate_succ, List.replicate_zero, List.append_nil, List.nil_append, List.cons_append, List.set_cons_zero, List.set_cons_succ, List.getElem?_cons_zero, List.getElem?_cons_succ,
  Option.some.injEq, List.cons.injEq, and_true, true_and, and_assoc, reduceCtorEq, L2.V.int.injEq, L2.V.ref.injEq, L2.V.bl.injEq, L2.V.str.injEq, L2.V.ty.injEq, L2.HO.ins.injEq, L2.HO.lst.injEq, L2.HO.tup.injEq, L2.HO.dK.injEq, exists_eq_left', exists_eq_left, exists_eq_right, exists_eq', exists_eq, exists_and_left, exists_and_right, reduceIte, Bool.false_eq_true, Bool.not_true, Bool.not_false,
  L2.tSeq, L2.tIfS, L2.tRet, L2.tRetN, L2.tNext, L2.tAsg, L2.gName, L2.tVar, L2.tC, L2.tCons, L2.tNil, L2.tCB, L2.tOp, L2.tUn, L2.tTup, L2.tLst, L2.tB, L2.tOr, L2.tAnd, L2.tNot, L2.tAndV, L2.tOrV, L2.tNotV, L2.tIf, L2.tTest, L2.tChain, L2.rI, L2.rI0, L2.rU, L2.tDrop, L2.tNever, L2.tCall, L2.tMeth, L2.tMake, L2.rGcd, L2.tFld, L2.sFld, L2.sFldAug, Mx.sFldA, Mx.sFldAugA, L2.rAdd, L2.rSub, L2.rEq, L2.rNe, L2.tDGet, L2.tDIn, L2.tDNotIn, L2.sDPut,
  Mx.isi_int_bool, Mx.isi_int_int, Mx.isi_int_tuple, Mx.isi_int_list, Mx.isi_int_str, Mx.scal_int, Mx.scal_str, Mx.scal_bl, Mx.ofString_inj, Mx.ofString_beq, Mx.lk_cons, Mx.pf_nil, Mx.pf_cons, Mx.sz1, Mx.sz2, List.lookup_nil, String.reduceEq, decide_true, decide_false, decide_eq_true_eq, Int.natAbs_natCast, L2.upd_same, L2.upd_upd, L2.cxOf, L2.gSub])
set_option hygiene false in
local macro_rules | `(tactic| walk_at "rds") => `(tactic| try simp only [L2.start, List.map_cons, List.map_nil, List.length_cons, List.length_nil, Nat.reduceAdd, Nat.reduceSub, Nat.reduceLT, Nat.reduceLeDiff, List.replicate_succ, List.replicate_zero, List.append_nil, List.nil_append, List.cons_append, List.set_cons_zero, List.set_cons_succ, List.getElem?_cons_zero, List.getElem?_cons_succ,
  Option.some.injEq, List.cons.injEq, and_true, true_and, and_assoc, reduceCtorEq, L2.V.int.injEq, L2.V.ref.injEq, L2.V.bl.injEq, L2.V.str.injEq, L2.V.ty.injEq, L2.HO.ins.injEq, L2.HO.lst.injEq, L2.HO.tup.injEq, L2.HO.dK.injEq, exists_eq_left', exists_eq_left, exists_eq_right, exists_eq', exists_eq, exists_and_left, exists_and_right, reduceIte, Bool.false_eq_true, Bool.not_true, Bool.not_false,
  L2.tSeq, L2.tIfS, L2.tRet, L2.tRetN, L2.tNext, L2.tAsg, L2.gName, L2.tVar, L2.tC, L2.tCons, L2.tNil, L2.tCB, L2.tOp, L2.tUn, L2.tTup, L2.tLst, L2.tB, L2.tOr, L2.tAnd, L2.tNot, L2.tAndV, L2.tOrV, L2.tNotV, L2.tIf, L2.tTest, L2.tChain, L2.rI, L2.rI0, L2.rU, L2.tDrop, L2.tNever, L2.tCall, L2.tMeth, L2.tMake, L2.rGcd, L2.tFld, L2.sFld, L2.sFldAug, Mx.sFldA, Mx.sFldAugA, L2.rAdd, L2.rSub, L2.rEq, L2.rNe, L2.tDGet, L2.tDIn, L2.tDNotIn, L2.sDPut,
  Mx.isi_int_bool, Mx.isi_int_int, Mx.isi_int_tuple, Mx.isi_int_list, Mx.isi_int_str, Mx.scal_int, Mx.scal_str, Mx.scal_bl, Mx.ofString_inj, Mx.ofString_beq, Mx.lk_cons, Mx.pf_nil, Mx.pf_cons, Mx.sz1, Mx.sz2, List.lookup_nil, String.reduceEq, decide_true, decide_false, decide_eq_true_eq, Int.natAbs_natCast, L2.upd_same, L2.upd_upd, L2.cxOf, L2.gSub, *])

section
variable {P : Program} {w : World} {K : PySem.W.Frag} {mg : Str → Option Value} {base : Heap}
theorem row_ne {H : Hp} {r sc p : Addr} {ns : List Int} (h : RowAt K H r sc ns) (hp : H p = none) : p ≠ r := by
  obtain ⟨_, _, _, _, _, hr2, _⟩ := h
  exact (ne_of_none hr2 hp).symm
/-! ### the same, and of the same kinds -/
def sp_alike_int : Sp := fun vs H Q _ => ∃ (a b : Int), vs = [.int a, .int b] ∧ Q (.bl (decide (a = b))) H
theorem sc_law_alike : FnScope ["_law_found", "_law_due", "_law_k"] ["_law_found", "_law_due"] (defScope s_law_alike) := ⟨rfl, rfl, rfl, by decide +kernel, rfl, by decide +kernel, by decide +kernel⟩
theorem ok_alike_int {f : Addr} {fd : FuncData} (F : Fun K "_law_alike" "_law_alike" s_law_alike f fd) (B : Blt mg) : FnOk P w K mg base CX0 1 f fd ["_law_found", "_law_due"] sp_alike_int := by
  refine F.ok sc_law_alike (fun vs H Q E h => ?_) (fun cdv A outer s H vs Q E hr h => ?_)
  · obtain ⟨a, b, rfl, _⟩ := h
    rfl
  · obtain ⟨a, b, rfl, k⟩ := h
    refine ⟨_, pss_cons (ps_if (PW.pt (pw_or (pt_val (b_isi B (pv 1) B.tuple PyProof.Rows.boot_tuple)) (pw_or1 (pt_val (b_isi B (pv 1) B.list PyProof.Rows.boot_list))))) pss_never pss_nil)
      (pss_cons (ps_if (PW.pt (pw_or (pt_cmpR op_isN (pv 1) pe_non (nomark _)) (pw_or1 (pt_cmpR op_isN (pv 0) pe_non (nomark _))))) pss_never pss_nil)
      (pss_cons (ps_if (PW.pt (pw_or (pt_val (b_isi B (pv 1) B.bool PyProof.Rows.boot_bool)) (pw_or1 (pt_val (b_isi B (pv 0) B.bool PyProof.Rows.boot_bool))))) pss_never pss_nil)
      (pss_cons (ps_if (pt_val (b_isi B (pv 1) B.str PyProof.Rows.boot_str)) pss_never pss_nil)
      (pss_one (ps_ret (pe_and (b_isi B (pv 0) B.int PyProof.Rows.boot_int) (pe_one (pe_cmpR op_eq (pv 0) (pv 1) (nomark _))))))))), ?_⟩
    walk_at "rd"
    exact k
def sp_alike_tup (K : PySem.W.Frag) : Sp := fun vs H Q _ => ∃ (a b : Addr) (xs ys : List Int), vs = [.ref a, .ref b] ∧ TupAt K H a (xs.map V.int) ∧ TupAt K H b (ys.map V.int) ∧ xs.length = ys.length ∧ ys.length ≤ 60 ∧ ∀ H', Stp [] H H' → Q (.bl (decide (xs = ys))) H'
theorem tyx_tup {H : Hp} {a : Addr} {xs : List V} (h : TupAt K H a xs) : TyX K H (.ref a) (.type "tuple") := by
  rcases h with h | h
  · exact .base (.tup h)
  · rcases h (fun _ => none) with (q | ⟨o, q⟩) | ⟨o, its, n, h1, h2, _⟩
    · cases q
    · cases q
    · exact .kTuple h1 h2
theorem isi_tupA {H : Hp} {Q : VK} {a : Addr} {xs : List V} {T : String} {b : Bool} (h : TupAt K H a xs) (hb : kitB "tuple" T = some b) (q : Q (.bl b) H) : rIsi K [.ref a, .ty T] H Q := ⟨_, _, _, _, _, rfl, .ty _, tyx_tup h, kit_ty hb, q⟩
theorem dp_ints {H : Hp} : ∀ (ns : List Int), DpAll K H (ns.map V.int) (ns.map PyData.int)
  | [] => .nil
  | n :: r => .cons (.int n) (dp_ints r)
theorem eqv_nil (ns : List Int) : PyData.eqv (.list (ns.map PyData.int)) (.list []) = ns.isEmpty := by
  cases ns with
  | nil => rfl
  | cons n r => rfl
def diffs (xs ys : List Int) (i : Nat) : List Int := ((List.range i).filter fun j => decide (xs[j]? ≠ ys[j]?)).map fun j => ((j : Nat) : Int)
theorem diffs_succ (xs ys : List Int) (i : Nat) : diffs xs ys (i + 1) = diffs xs ys i ++ (if xs[i]? ≠ ys[i]? then [(i : Int)] else []) := by
  unfold diffs
  rw [List.range_succ, List.filter_append, List.map_append]
  congr 1
  by_cases h : xs[i]? ≠ ys[i]?
  · rw [if_pos h, List.filter_cons_of_pos (by simpa using h)]
    rfl
  · rw [if_neg h, List.filter_cons_of_neg (by simpa using h)]
    rfl
theorem diffs_len (xs ys : List Int) (i : Nat) : (diffs xs ys i).length ≤ i := by
  unfold diffs
  rw [List.length_map]
  refine Nat.le_trans (List.length_filter_le _ _) ?_
  rw [List.length_range]
  exact Nat.le_refl _
theorem diffs_nil {xs ys : List Int} (h : xs.length = ys.length) : (diffs xs ys ys.length).isEmpty = decide (xs = ys) := by
  by_cases e : xs = ys
  · subst e
    simp [diffs]
  · rw [decide_eq_false e]
    unfold diffs
    cases q : ((List.range ys.length).filter fun j => decide (xs[j]? ≠ ys[j]?)) with
    | cons a r => rfl
    | nil =>
      exfalso
      apply e
      apply List.ext_getElem? 
      intro j
      by_cases hj : j < ys.length
      · have := List.filter_eq_nil_iff.mp q j (List.mem_range.mpr hj)
        simpa using this
      · rw [List.getElem?_eq_none (by omega), List.getElem?_eq_none (by omega)]
theorem ok_alike_tup {f : Addr} {fd : FuncData} (F : Fun K "_law_alike" "_law_alike" s_law_alike f fd) (B : Blt mg) (G : OwnF P w K mg base "_law_alike" 1 ["_law_found", "_law_due"] sp_alike_int) : FnOk P w K mg base CX0 2 f fd ["_law_found", "_law_due"] (sp_alike_tup K) := by
  refine F.ok sc_law_alike (fun vs H Q E h => ?_) (fun cdv A outer s H vs Q E hr h => ?_)
  · obtain ⟨a, b, xs, ys, rfl, _⟩ := h
    rfl
  · obtain ⟨a, b, xs, ys, rfl, ha, hb, hl, hlen, k⟩ := h
    have hu := hu_of hr
    have hu64 : (A.deeper (PyProof.Rows.envOfC "_law_alike" (defScope s_law_alike) s.heap.objs.size f cdv)).units + 64 < cLine := by
      have := hr.un
      omega
    refine ⟨_, pss_cons (ps_if (PW.pt (pw_or (pt_val (b_isi B (pv 1) B.tuple PyProof.Rows.boot_tuple)) (pw_or1 (pt_val (b_isi B (pv 1) B.list PyProof.Rows.boot_list)))))
        (pss_cons (ps_if (PW.pt (pw_or (pt_cmpR op_ne (b_isi B (pv 0) B.tuple PyProof.Rows.boot_tuple) (b_isi B (pv 1) B.tuple PyProof.Rows.boot_tuple) (nomark _)) (pw_or1 (pt_not (pt_val (pe_callB call_isiT (by rfl) B.isi PyProof.Rows.boot_isinstance (pa_cons (pv 0) (pa_cons (pe_tup (pa_cons (pe_bltn (v := .ty "tuple") (by rfl) B.tuple PyProof.Rows.boot_tuple rfl) (pa_cons (pe_bltn (v := .ty "list") (by rfl) B.list PyProof.Rows.boot_list rfl) pa_nil))) pa_nil)))))))) pss_never pss_nil)
        (pss_cons (ps_if (pt_cmpR op_ne (pe_callB call_len_seq (by rfl) B.len PySem.boot_len (pa_cons (pv 0) pa_nil)) (pe_callB call_len_seq (by rfl) B.len PySem.boot_len (pa_cons (pv 1) pa_nil)) (nomark _)) pss_never pss_nil)
        (pss_one (ps_ret (pe_cmpR (op_eqD hu64) (pe_lc (own := [("_law_k", 2)]) (te := tVar 2) (tt := tNot (tB (tCall sp_alike_int [] E0 (tCons (tOp (rIxT K) (tVar 0) (tVar 2)) (tCons (tOp (rIxT K) (tVar 1) (tVar 2)) tNil)))))
            rfl sc_law_alike.nd (pi_range1 (by rfl) B.range (pa_cons (pe_callB call_len_seq (by rfl) B.len PySem.boot_len (pa_cons (pv 1) pa_nil)) pa_nil)) (blkOk_by (N := ["_law_found", "_law_due", "_law_k"]) (sc := defScope s_law_alike) (by decide +kernel))
            (fun _ _ _ _ _ => pg_name (i := 2) sc_law_alike.nd rfl (.inl rfl)) (fun _ _ _ _ _ => pts_one (pt_not (pt_val (p_call G hr (pa_cons (pe_ix ix_tup (pv 0) (pv 2) (fun _ _ => rfl)) (pa_cons (pe_ix ix_tup (pv 1) (pv 2) (fun _ _ => rfl)) pa_nil)))))) (fun _ _ _ _ _ => pv 2)) (pe_lst pa_nil) (nomark _)))))) pss_nil)
      pss_never, ?_⟩
    walk_at "rd"
    refine isi_tupA hb (b := true) (by decide +kernel) ?_
    walk_at "rd"
    refine isi_tupA ha (b := true) (by decide +kernel) (isi_tupA hb (b := true) (by decide +kernel) ?_)
    walk_at "rd"
    intro T hT
    have s1 := Stp.new (o := .tup [.ty "tuple", .ty "list"]) hT
    refine ⟨.ref a, T, _, _, _, true, rfl, upd_same, .cons (.ty _) (.cons (.ty _) .nil), tyx_tup (ha.st s1), kitAny_cons (b := true) (kit_ty (by decide +kernel)) (fun z => nomatch z) (fun _ => rfl), ?_⟩
    have ha1 := ha.st s1
    have hb1 := hb.st s1
    generalize upd H T (.tup [.ty "tuple", .ty "list"]) = H1 at *
    walk_at "rd"
    refine ⟨_, .inr ha1.sq, _, .inr hb1.sq, ?_⟩
    walk_at "rd"
    rw [decide_eq_true (show (((xs.map V.int).length : Nat) : Int) = (((ys.map V.int).length : Nat) : Int) by rw [List.length_map, List.length_map, hl])]
    refine iteF ?_
    have hn : (((ys.map V.int).length : Nat) : Int).toNat = ys.length := by rw [List.length_map]; omega
    have hn2 : (((ys.map V.int).length : Nat) : Int) ≤ 60 := by rw [List.length_map]; omega
    refine ⟨_, rfl, b, rfl, _, .inr hb1.sq, _, rfl, by omega, by omega, ?_⟩
    rw [hn]
    intro D hD
    refine lc_range (lo := 0) (n := ys.length) (fun i H' => Stp [] H1 H' ∧ H' D = some (.lst ((diffs xs ys i).map V.int))) ⟨Stp.new hD, upd_same⟩ (fun i H' hi h => ?_) (fun H' h => ?_)
    · obtain ⟨s2, hl2⟩ := h
      have ha2 := ha1.st s2
      have hb2 := hb1.st s2
      have hx : xs[i]? = some (xs[i]'(by omega)) := List.getElem?_eq_getElem _
      have hy : ys[i]? = some (ys[i]'hi) := List.getElem?_eq_getElem _
      have atx : ∀ (zs : List Int) (hz : i < zs.length), atI (zs.map V.int) (0 + (i : Int)) = some (.int (zs[i]'hz)) := by
        intro zs hz
        unfold atI ixN
        rw [if_pos (by omega), List.length_map, if_pos (by omega)]
        show (zs.map V.int)[(0 + (i : Int)).toNat]? = _
        rw [show (0 + (i : Int)).toNat = i by omega, List.getElem?_map, List.getElem?_eq_getElem hz]
        rfl
      refine ⟨wipe1, ⟨_, rfl, _, rfl, a, _, _, _, rfl, rfl, ha2.sq, atx xs (by omega), _, rfl, _, rfl, b, _, _, _, rfl, rfl, hb2.sq, atx ys hi, _, _, rfl, _, rfl, ?_⟩⟩
      have hds := diffs_succ xs ys i
      rw [hx, hy] at hds
      by_cases e : xs[i]'(by omega) = ys[i]'hi
      · rw [decide_eq_true e]
        rw [if_neg (by rw [e]; simp), List.append_nil] at hds
        refine iteF ?_
        rw [hds]
        exact ⟨s2, hl2⟩
      · rw [decide_eq_false e]
        rw [if_pos (by simpa using e)] at hds
        refine iteT ⟨_, rfl, _, hl2, ?_, ?_, ?_⟩
        · rw [List.length_map]
          have := diffs_len xs ys i
          exact Nat.lt_of_le_of_lt (show _ ≤ 100 by omega) (by decide)
        · exact stp_acc s2 hD (by rw [hl2]; intro ys z; cases z)
        · rw [upd_same, hds, List.map_append]
          congr 3
          show V.int (0 + (i : Int)) :: [] = _
          rw [Int.zero_add]
          rfl
    · obtain ⟨s2, hl2⟩ := h
      refine ⟨Nat.zero_le _, fun p hp => ?_⟩
      have s3 := Stp.new (o := .lst []) hp
      refine ⟨_, _, .lst (.inl (.inl (s3.keep _ _ hl2 (by simp)))) (dp_ints _), .lst (.inl (.inl upd_same)) .nil, ?_, rfl, ?_⟩
      · exact PySem.W.ke_shaped_ints _
      · rw [eqv_nil, diffs_nil hl]
        exact k _ (s1.trans (s2.trans s3))
end
end Mx

namespace Mx
open PySem L2
set_option hygiene false in
local macro_rules | `(tactic| walk_at "rd") => `(tactic| try simp only [L2.start, List.map_cons, List.map_nil, List.length_cons, List.length_nil, Nat.reduceAdd, Nat.reduceSub, Nat.reduceLT, Nat.reduceLeDiff, List.replicate_succ, List.replicate_zero, List.append_nil, List.nil_append, List.cons_append, List.set_cons_zero, List.set_cons_succ, List.getElem?_cons_zero, List.getElem?_cons_succ,
  Option.some.injEq, List.cons.injEq, and_true, true_and, and_assoc, reduceCtorEq, L2.V.int.injEq, L2.V.ref.injEq, L2.V.bl.injEq, L2.V.str.injEq, L2.V.ty.injEq, L2.HO.ins.injEq, L2.HO.lst.injEq, L2.HO.tup.injEq, L2.HO.dK.injEq, exists_eq_left', exists_eq_left, exists_eq_right, exists_eq', exists_eq, exists_and_left, exists_and_right, reduceIte, Bool.false_eq_true, Bool.not_true, Bool.not_false,
  L2.tSeq, L2.tIfS, L2.tRet, L2.tRetN, L2.tNext, L2.tAsg, L2.gName, L2.tVar, L2.tC, L2.tCons, L2.tNil, L2.tCB, L2.tOp, L2.tUn, L2.tTup, L2.tLst, L2.tB, L2.tOr, L2.tAnd, L2.tNot, L2.tAndV, L2.tOrV, L2.tNotV, L2.tIf, L2.tTest, L2.tChain, L2.rI, L2.rI0, L2.rU, L2.tDrop, L2.tNever, L2.tCall, L2.tMeth, L2.tMake, L2.rGcd, L2.tFld, L2.sFld, L2.sFldAug, Mx.sFldA, Mx.sFldAugA, L2.rAdd, L2.rSub, L2.rEq, L2.rNe, L2.tDGet, L2.tDIn, L2.tDNotIn, L2.sDPut,
  Mx.isi_int_bool, Mx.isi_int_int, Mx.isi_int_tuple, Mx.isi_int_list, Mx.isi_int_str, Mx.scal_int, Mx.scal_str, Mx.scal_bl, Mx.ofString_inj, Mx.ofString_beq, Mx.lk_cons, Mx.pf_nil, Mx.pf_cons, Mx.sz1, Mx.sz2, List.lookup_nil, String.reduceEq, decide_true, decide_false, decide_eq_true_eq, Int.natAbs_natCast, L2.upd_same, L2.upd_upd, L2.cxOf, L2.gSub])
set_option hygiene false in
local macro_rules | `(tactic| walk_at "rds") => `(tactic| try simp only [L2.start, List.map_cons, List.map_nil, List.length_cons, List.length_nil, Nat.reduceAdd, Nat.reduceSub, Nat.reduceLT, Nat.reduceLeDiff, List.replicate_succ, List.replicate_zero, List.append_nil, List.nil_append, List.cons_append, List.set_cons_zero, List.set_cons_succ, List.getElem?_cons_zero, List.getElem?_cons_succ,
  Option.some.injEq, List.cons.injEq, and_true, true_and, and_assoc, reduceCtorEq, L2.V.int.injEq, L2.V.ref.injEq, L2.V.bl.injEq, L2.V.str.injEq, L2.V.ty.injEq, L2.HO.ins.injEq, L2.HO.lst.injEq, L2.HO.tup.injEq, L2.HO.dK.injEq, exists_eq_left', exists_eq_left, exists_eq_right, exists_eq', exists_eq, exists_and_left, exists_and_right, reduceIte, Bool.false_eq_true, Bool.not_true, Bool.not_false,
  L2.tSeq, L2.tIfS, L2.tRet, L2.tRetN, L2.tNext, L2.tAsg, L2.gName, L2.tVar, L2.tC, L2.tCons, L2.tNil, L2.tCB, L2.tOp, L2.tUn, L2.tTup, L2.tLst, L2.tB, L2.tOr, L2.tAnd, L2.tNot, L2.tAndV, L2.tOrV, L2.tNotV, L2.tIf, L2.tTest, L2.tChain, L2.rI, L2.rI0, L2.rU, L2.tDrop, L2.tNever, L2.tCall, L2.tMeth, L2.tMake, L2.rGcd, L2.tFld, L2.sFld, L2.sFldAug, Mx.sFldA, Mx.sFldAugA, L2.rAdd, L2.rSub, L2.rEq, L2.rNe, L2.tDGet, L2.tDIn, L2.tDNotIn, L2.sDPut,
  Mx.isi_int_bool, Mx.isi_int_int, Mx.isi_int_tuple, Mx.isi_int_list, Mx.isi_int_str, Mx.scal_int, Mx.scal_str, Mx.scal_bl, Mx.ofString_inj, Mx.ofString_beq, Mx.lk_cons, Mx.pf_nil, Mx.pf_cons, Mx.sz1, Mx.sz2, List.lookup_nil, String.reduceEq, decide_true, decide_false, decide_eq_true_eq, Int.natAbs_natCast, L2.upd_same, L2.upd_upd, L2.cxOf, L2.gSub, *])

section
variable {P : Program} {w : World} {K : PySem.W.Frag} {mg : Str → Option Value} {base : Heap}
/-! ### the same at every place, however deep -/
def EqB (v w : V) : Prop := (∃ i, v = .int i ∧ w = .int i) ∨ (∃ x, PyData.strOk x = true ∧ v = .str x ∧ w = .str x) ∨ (v = .non ∧ w = .non)
def EqT (K : PySem.W.Frag) (H : Hp) : Nat → V → V → Prop
  | 0, v, w => EqB v w
  | n + 1, v, w => EqB v w ∨ ∃ (a b : Addr) (xs ys : List V), v = .ref a ∧ w = .ref b ∧ (TupAt K H a xs ∧ TupAt K H b ys ∨ H a = some (.lst xs) ∧ H b = some (.lst ys)) ∧ xs.length ≤ 100000 ∧ Paired (EqT K H n) xs ys
abbrev EqS (K : PySem.W.Frag) (H : Hp) (n : Nat) := Paired (EqT K H n)
theorem pr_map {α β : Type} {R S : α → β → Prop} (f : ∀ a b, R a b → S a b) : ∀ {xs : List α} {ys : List β}, Paired R xs ys → Paired S xs ys
  | _, _, .nil => .nil
  | _, _, .cons h r => .cons (f _ _ h) (pr_map f r)
theorem EqT.stF {F : List Addr} {H H' : Hp} (s : Stp F H H') (hF : ∀ b ∈ F, ∀ xs, H b ≠ some (.lst xs)) : ∀ {n : Nat} {v w : V}, EqT K H n v w → EqT K H' n v w
  | 0, _, _, h => h
  | n + 1, v, w, h => by
    rcases h with h | ⟨a, b, xs, ys, e1, e2, h, hl, hp⟩
    · exact .inl h
    · refine .inr ⟨a, b, xs, ys, e1, e2, ?_, hl, pr_map (fun _ _ q => EqT.stF s hF q) hp⟩
      rcases h with ⟨h1, h2⟩ | ⟨h1, h2⟩
      · exact .inl ⟨h1.st s, h2.st s⟩
      · exact .inr ⟨s.keep _ _ h1 fun z => hF _ z _ h1, s.keep _ _ h2 fun z => hF _ z _ h2⟩
theorem EqT.st {H H' : Hp} {n : Nat} {v w : V} (h : EqT K H n v w) (s : Stp [] H H') : EqT K H' n v w := h.stF s (fun _ z => nomatch z)
theorem EqS.st {H H' : Hp} {n : Nat} {xs ys : List V} (h : Paired (EqT K H n) xs ys) (s : Stp [] H H') : Paired (EqT K H' n) xs ys := pr_map (fun _ _ q => q.st s) h
theorem EqT.up {H : Hp} : ∀ {n : Nat} {v w : V}, EqT K H n v w → EqT K H (n + 1) v w
  | 0, _, _, h => .inl h
  | n + 1, v, w, h => by
    rcases h with h | ⟨a, b, xs, ys, e1, e2, h, hl, hp⟩
    · exact .inl h
    · exact .inr ⟨a, b, xs, ys, e1, e2, h, hl, pr_map (fun _ _ q => q.up) hp⟩
theorem pr_get {α β : Type} {R : α → β → Prop} : ∀ {xs : List α} {ys : List β}, Paired R xs ys → ∀ i, i < xs.length → i < ys.length → ∃ x y, xs[i]? = some x ∧ ys[i]? = some y ∧ R x y
  | _, _, .nil, _, h, _ => absurd h (Nat.not_lt_zero _)
  | _, _, .cons h _, 0, _, _ => ⟨_, _, rfl, rfl, h⟩
  | _, _, .cons _ r, i + 1, h1, h2 => by
    obtain ⟨x, y, e1, e2, q⟩ := pr_get r i (Nat.lt_of_succ_lt_succ h1) (Nat.lt_of_succ_lt_succ h2)
    exact ⟨x, y, e1, e2, q⟩
theorem at_pos {xs : List V} {i : Nat} {x : V} (h : xs[i]? = some x) : atI xs (0 + (i : Int)) = some x := by
  obtain ⟨hl, _⟩ := List.getElem?_eq_some_iff.mp h
  unfold atI ixN
  rw [if_pos (by omega), if_pos (by omega)]
  show xs[(0 + (i : Int)).toNat]? = _
  rw [show (0 + (i : Int)).toNat = i by omega]
  exact h
theorem isi_lstA {H : Hp} {Q : VK} {a : Addr} {xs : List V} {T : String} {b : Bool} (h : H a = some (.lst xs)) (hb : kitB "list" T = some b) (q : Q (.bl b) H) : rIsi K [.ref a, .ty T] H Q := ⟨_, _, _, _, _, rfl, .ty _, .base (.lst h), kit_ty hb, q⟩
theorem isi_strA {H : Hp} {Q : VK} {x : Str} {T : String} {b : Bool} (hb : kitB "str" T = some b) (q : Q (.bl b) H) : rIsi K [.str x, .ty T] H Q := ⟨_, _, _, _, _, rfl, .ty _, .base (.str x), kit_ty hb, q⟩
theorem isi_nonA {H : Hp} {Q : VK} {T : String} {b : Bool} (hb : kitB "NoneType" T = some b) (q : Q (.bl b) H) : rIsi K [.non, .ty T] H Q := ⟨_, _, _, _, _, rfl, .ty _, .base .non, kit_ty hb, q⟩
def sp_eq (K : PySem.W.Frag) (n : Nat) : Sp := fun vs H Q _ => ∃ v w, vs = [v, w] ∧ EqT K H n v w ∧ ∀ H', Stp [] H H' → Q (.bl true) H'
theorem ok_alike_deep {f : Addr} {fd : FuncData} (F : Fun K "_law_alike" "_law_alike" s_law_alike f fd) (B : Blt mg) (hm : mg "_law_alike" = some (.ref f)) (hk : PySem.W.keepIn K (.ref f) = true) (hb : Binds K fd ["_law_found", "_law_due"] []) :
    ∀ n, FnOk P w K mg base CX0 (n + 1) f fd ["_law_found", "_law_due"] (sp_eq K n)
  | 0 => by
    refine F.ok sc_law_alike (fun vs H Q E h => ?_) (fun cdv A outer s H vs Q E hr h => ?_)
    · obtain ⟨v, w', rfl, _⟩ := h
      rfl
    obtain ⟨v, w', rfl, h, k⟩ := h
    rcases h with ⟨i, rfl, rfl⟩ | ⟨x, hx, rfl, rfl⟩ | ⟨rfl, rfl⟩
    · refine ⟨_, pss_cons (ps_if (PW.pt (pw_or (pt_val (b_isi B (pv 1) B.tuple PyProof.Rows.boot_tuple)) (pw_or1 (pt_val (b_isi B (pv 1) B.list PyProof.Rows.boot_list))))) pss_never pss_nil)
      (pss_cons (ps_if (PW.pt (pw_or (pt_cmpR op_isN (pv 1) pe_non (nomark _)) (pw_or1 (pt_cmpR op_isN (pv 0) pe_non (nomark _))))) (pss_one (ps_ret (pe_and (pe_cmpR op_isN (pv 1) pe_non (nomark _)) (pe_one (pe_cmpR op_isN (pv 0) pe_non (nomark _)))))) pss_nil)
      (pss_cons (ps_if (PW.pt (pw_or (pt_val (b_isi B (pv 1) B.bool PyProof.Rows.boot_bool)) (pw_or1 (pt_val (b_isi B (pv 0) B.bool PyProof.Rows.boot_bool))))) pss_never pss_nil)
      (pss_cons (ps_if (pt_val (b_isi B (pv 1) B.str PyProof.Rows.boot_str)) (pss_one (ps_ret (pe_and (b_isi B (pv 0) B.str PyProof.Rows.boot_str) (pe_one (pe_cmpR op_eq (pv 0) (pv 1) (nomark _)))))) pss_nil)
      (pss_one (ps_ret (pe_and (b_isi B (pv 0) B.int PyProof.Rows.boot_int) (pe_one (pe_cmpR op_eq (pv 0) (pv 1) (nomark _))))))))), ?_⟩
      walk_at "rd"
      exact k _ Stp.refl
    · refine ⟨_, pss_cons (ps_if (PW.pt (pw_or (pt_val (b_isi B (pv 1) B.tuple PyProof.Rows.boot_tuple)) (pw_or1 (pt_val (b_isi B (pv 1) B.list PyProof.Rows.boot_list))))) pss_never pss_nil)
      (pss_cons (ps_if (PW.pt (pw_or (pt_cmpR op_isN (pv 1) pe_non (nomark _)) (pw_or1 (pt_cmpR op_isN (pv 0) pe_non (nomark _))))) (pss_one (ps_ret (pe_and (pe_cmpR op_isN (pv 1) pe_non (nomark _)) (pe_one (pe_cmpR op_isN (pv 0) pe_non (nomark _)))))) pss_nil)
      (pss_cons (ps_if (PW.pt (pw_or (pt_val (b_isi B (pv 1) B.bool PyProof.Rows.boot_bool)) (pw_or1 (pt_val (b_isi B (pv 0) B.bool PyProof.Rows.boot_bool))))) pss_never pss_nil)
      (pss_cons (ps_if (pt_val (b_isi B (pv 1) B.str PyProof.Rows.boot_str)) (pss_one (ps_ret (pe_and (b_isi B (pv 0) B.str PyProof.Rows.boot_str) (pe_one (pe_cmpR op_eq (pv 0) (pv 1) (nomark _)))))) pss_nil)
      (pss_one (ps_ret (pe_and (b_isi B (pv 0) B.int PyProof.Rows.boot_int) (pe_one (pe_cmpR op_eq (pv 0) (pv 1) (nomark _))))))))), ?_⟩
      walk_at "rd"
      refine isi_strA (b := false) (by decide +kernel) ?_
      walk_at "rd"
      refine isi_strA (b := false) (by decide +kernel) ?_
      walk_at "rd"
      refine isi_strA (b := false) (by decide +kernel) ?_
      walk_at "rd"
      refine isi_strA (b := false) (by decide +kernel) ?_
      walk_at "rd"
      refine isi_strA (b := true) (by decide +kernel) ?_
      walk_at "rd"
      refine isi_strA (b := true) (by decide +kernel) ?_
      walk_at "rd"
      exact k _ Stp.refl
    · refine ⟨_, pss_cons (ps_if (PW.pt (pw_or (pt_val (b_isi B (pv 1) B.tuple PyProof.Rows.boot_tuple)) (pw_or1 (pt_val (b_isi B (pv 1) B.list PyProof.Rows.boot_list))))) pss_never pss_nil)
      (pss_cons (ps_if (PW.pt (pw_or (pt_cmpR op_isN (pv 1) pe_non (nomark _)) (pw_or1 (pt_cmpR op_isN (pv 0) pe_non (nomark _))))) (pss_one (ps_ret (pe_and (pe_cmpR op_isN (pv 1) pe_non (nomark _)) (pe_one (pe_cmpR op_isN (pv 0) pe_non (nomark _)))))) pss_nil)
      (pss_cons (ps_if (PW.pt (pw_or (pt_val (b_isi B (pv 1) B.bool PyProof.Rows.boot_bool)) (pw_or1 (pt_val (b_isi B (pv 0) B.bool PyProof.Rows.boot_bool))))) pss_never pss_nil)
      (pss_cons (ps_if (pt_val (b_isi B (pv 1) B.str PyProof.Rows.boot_str)) (pss_one (ps_ret (pe_and (b_isi B (pv 0) B.str PyProof.Rows.boot_str) (pe_one (pe_cmpR op_eq (pv 0) (pv 1) (nomark _)))))) pss_nil)
      (pss_one (ps_ret (pe_and (b_isi B (pv 0) B.int PyProof.Rows.boot_int) (pe_one (pe_cmpR op_eq (pv 0) (pv 1) (nomark _))))))))), ?_⟩
      walk_at "rd"
      refine isi_nonA (b := false) (by decide +kernel) ?_
      walk_at "rd"
      refine isi_nonA (b := false) (by decide +kernel) ?_
      walk_at "rd"
      exact k _ Stp.refl
  | n + 1 => by
    have G : OwnF P w K mg base "_law_alike" (n + 1) ["_law_found", "_law_due"] (sp_eq K n) := ⟨f, fd, ok_alike_deep F B hm hk hb n, hm, hk, hb⟩
    refine F.ok sc_law_alike (fun vs H Q E h => ?_) (fun cdv A outer s H vs Q E hr h => ?_)
    · obtain ⟨v, w', rfl, _⟩ := h
      rfl
    have hu64 : (A.deeper (PyProof.Rows.envOfC "_law_alike" (defScope s_law_alike) s.heap.objs.size f cdv)).units + 64 < cLine := by
      have := hr.un
      omega
    obtain ⟨v, w', rfl, h, k⟩ := h
    rcases h with h | ⟨a, b, xs, ys, rfl, rfl, ⟨ha, hb⟩ | ⟨ha, hb⟩, hlen, hp⟩
    rotate_left
    · refine ⟨_, pss_cons (ps_if (PW.pt (pw_or (pt_val (b_isi B (pv 1) B.tuple PyProof.Rows.boot_tuple)) (pw_or1 (pt_val (b_isi B (pv 1) B.list PyProof.Rows.boot_list))))) (pss_cons (ps_if (PW.pt (pw_or (pt_cmpR op_ne (b_isi B (pv 0) B.tuple PyProof.Rows.boot_tuple) (b_isi B (pv 1) B.tuple PyProof.Rows.boot_tuple) (nomark _)) (pw_or1 (pt_not (pt_val (pe_callB call_isiT (by rfl) B.isi PyProof.Rows.boot_isinstance (pa_cons (pv 0) (pa_cons (pe_tup (pa_cons (pe_bltn (v := .ty "tuple") (by rfl) B.tuple PyProof.Rows.boot_tuple rfl) (pa_cons (pe_bltn (v := .ty "list") (by rfl) B.list PyProof.Rows.boot_list rfl) pa_nil))) pa_nil)))))))) pss_never pss_nil)
          (pss_cons (ps_if (pt_cmpR op_ne (pe_callB call_len_seq (by rfl) B.len PySem.boot_len (pa_cons (pv 0) pa_nil)) (pe_callB call_len_seq (by rfl) B.len PySem.boot_len (pa_cons (pv 1) pa_nil)) (nomark _)) pss_never pss_nil)
          (pss_one (ps_ret (pe_cmpR (op_eqD hu64) (pe_lc (own := [("_law_k", 2)]) (te := tVar 2) (tt := tNot (tB (tCall (sp_eq K n) [] E0 (tCons (tOp (rIxT K) (tVar 0) (tVar 2)) (tCons (tOp (rIxT K) (tVar 1) (tVar 2)) tNil)))))
              rfl sc_law_alike.nd (pi_range1 (by rfl) B.range (pa_cons (pe_callB call_len_seq (by rfl) B.len PySem.boot_len (pa_cons (pv 1) pa_nil)) pa_nil)) (blkOk_by (N := ["_law_found", "_law_due", "_law_k"]) (sc := defScope s_law_alike) (by decide +kernel))
              (fun _ _ _ _ _ => pg_name (i := 2) sc_law_alike.nd rfl (.inl rfl)) (fun _ _ _ _ _ => pts_one (pt_not (pt_val (p_call G hr (pa_cons (pe_ix ix_tup (pv 0) (pv 2) (fun _ _ => rfl)) (pa_cons (pe_ix ix_tup (pv 1) (pv 2) (fun _ _ => rfl)) pa_nil)))))) (fun _ _ _ _ _ => pv 2)) (pe_lst pa_nil) (nomark _)))))) pss_nil)
        pss_never, ?_⟩
      walk_at "rd"
      refine isi_tupA hb (b := true) (by decide +kernel) ?_
      walk_at "rd"
      refine isi_tupA ha (b := true) (by decide +kernel) (isi_tupA hb (b := true) (by decide +kernel) ?_)
      walk_at "rd"
      intro T hT
      have s1 := Stp.new (o := .tup [.ty "tuple", .ty "list"]) hT
      refine ⟨.ref a, T, _, _, _, true, rfl, upd_same, .cons (.ty _) (.cons (.ty _) .nil), tyx_tup (ha.st s1), kitAny_cons (b := true) (kit_ty (by decide +kernel)) (fun z => nomatch z) (fun _ => rfl), ?_⟩
      have ha1 := ha.st s1
      have hb1 := hb.st s1
      have hp1 := EqS.st hp s1
      generalize upd H T (.tup [.ty "tuple", .ty "list"]) = H1 at *
      walk_at "rd"
      refine ⟨_, .inr ha1.sq, _, .inr hb1.sq, ?_⟩
      walk_at "rd"
      have hl := hp.length
      rw [decide_eq_true (show ((xs.length : Nat) : Int) = ((ys.length : Nat) : Int) by rw [hl])]
      refine iteF ?_
      refine ⟨_, rfl, b, rfl, _, .inr hb1.sq, _, rfl, by omega, by omega, ?_⟩
      intro D hD
      refine lc_range (lo := 0) (n := ((ys.length : Nat) : Int).toNat) (fun i H' => Stp [] H1 H' ∧ H' D = some (.lst [])) ⟨Stp.new hD, upd_same⟩ (fun i H' hi h => ?_) (fun H' h => ?_)
      · obtain ⟨s2, hl2⟩ := h
        have hi' : i < ys.length := by omega
        have ha2 := ha1.st s2
        have hb2 := hb1.st s2
        obtain ⟨x, y, hx, hy, hxy⟩ := pr_get (EqS.st hp1 s2) i (by omega) hi'
        refine ⟨wipe1, ⟨_, rfl, _, rfl, a, _, _, _, rfl, rfl, ha2.sq, at_pos hx, _, rfl, _, rfl, b, _, _, _, rfl, rfl, hb2.sq, at_pos hy, ?_⟩⟩
        refine ⟨x, y, rfl, hxy, fun H3 s3 => ⟨_, rfl, iteF ?_⟩⟩
        exact ⟨s2.trans s3, s3.keep _ _ hl2 (by simp)⟩
      · obtain ⟨s2, hl2⟩ := h
        refine ⟨Nat.zero_le _, fun p hp => ?_⟩
        have s3 := Stp.new (o := .lst []) hp
        refine ⟨_, _, .lst (.inl (.inl (s3.keep _ _ hl2 (by simp)))) .nil, .lst (.inl (.inl upd_same)) .nil, rfl, rfl, ?_⟩
        exact k _ (s1.trans (s2.trans s3))
    · refine ⟨_, pss_cons (ps_if (PW.pt (pw_or (pt_val (b_isi B (pv 1) B.tuple PyProof.Rows.boot_tuple)) (pw_or1 (pt_val (b_isi B (pv 1) B.list PyProof.Rows.boot_list))))) (pss_cons (ps_if (PW.pt (pw_or (pt_cmpR op_ne (b_isi B (pv 0) B.tuple PyProof.Rows.boot_tuple) (b_isi B (pv 1) B.tuple PyProof.Rows.boot_tuple) (nomark _)) (pw_or1 (pt_not (pt_val (pe_callB call_isiT (by rfl) B.isi PyProof.Rows.boot_isinstance (pa_cons (pv 0) (pa_cons (pe_tup (pa_cons (pe_bltn (v := .ty "tuple") (by rfl) B.tuple PyProof.Rows.boot_tuple rfl) (pa_cons (pe_bltn (v := .ty "list") (by rfl) B.list PyProof.Rows.boot_list rfl) pa_nil))) pa_nil)))))))) pss_never pss_nil)
          (pss_cons (ps_if (pt_cmpR op_ne (pe_callB call_len_seq (by rfl) B.len PySem.boot_len (pa_cons (pv 0) pa_nil)) (pe_callB call_len_seq (by rfl) B.len PySem.boot_len (pa_cons (pv 1) pa_nil)) (nomark _)) pss_never pss_nil)
          (pss_one (ps_ret (pe_cmpR (op_eqD hu64) (pe_lc (own := [("_law_k", 2)]) (te := tVar 2) (tt := tNot (tB (tCall (sp_eq K n) [] E0 (tCons (tOp (rIxL K) (tVar 0) (tVar 2)) (tCons (tOp (rIxL K) (tVar 1) (tVar 2)) tNil)))))
              rfl sc_law_alike.nd (pi_range1 (by rfl) B.range (pa_cons (pe_callB call_len_seq (by rfl) B.len PySem.boot_len (pa_cons (pv 1) pa_nil)) pa_nil)) (blkOk_by (N := ["_law_found", "_law_due", "_law_k"]) (sc := defScope s_law_alike) (by decide +kernel))
              (fun _ _ _ _ _ => pg_name (i := 2) sc_law_alike.nd rfl (.inl rfl)) (fun _ _ _ _ _ => pts_one (pt_not (pt_val (p_call G hr (pa_cons (pe_ix ix_list (pv 0) (pv 2) (fun _ _ => rfl)) (pa_cons (pe_ix ix_list (pv 1) (pv 2) (fun _ _ => rfl)) pa_nil)))))) (fun _ _ _ _ _ => pv 2)) (pe_lst pa_nil) (nomark _)))))) pss_nil)
        pss_never, ?_⟩
      walk_at "rd"
      refine isi_lstA hb (b := false) (by decide +kernel) ?_
      walk_at "rd"
      refine isi_lstA hb (b := true) (by decide +kernel) ?_
      walk_at "rd"
      refine isi_lstA ha (b := false) (by decide +kernel) (isi_lstA hb (b := false) (by decide +kernel) ?_)
      walk_at "rd"
      intro T hT
      have s1 := Stp.new (o := .tup [.ty "tuple", .ty "list"]) hT
      have ha1 := s1.keep _ _ ha (by simp)
      have hb1 := s1.keep _ _ hb (by simp)
      have hp1 := EqS.st hp s1
      refine ⟨.ref a, T, _, _, _, true, rfl, upd_same, .cons (.ty _) (.cons (.ty _) .nil), .base (.lst ha1), kitAny_cons (b := false) (kit_ty (by decide +kernel)) (fun _ => kitAny_cons (b := true) (kit_ty (by decide +kernel)) (fun z => nomatch z) (fun _ => rfl)) (fun z => nomatch z), ?_⟩
      generalize upd H T (.tup [.ty "tuple", .ty "list"]) = H1 at *
      walk_at "rd"
      refine ⟨_, .inl (.inl (.inl ha1)), _, .inl (.inl (.inl hb1)), ?_⟩
      walk_at "rd"
      have hl := hp.length
      rw [decide_eq_true (show ((xs.length : Nat) : Int) = ((ys.length : Nat) : Int) by rw [hl])]
      refine iteF ?_
      refine ⟨_, rfl, b, rfl, _, .inl (.inl (.inl hb1)), _, rfl, by omega, by omega, ?_⟩
      intro D hD
      refine lc_range (lo := 0) (n := ((ys.length : Nat) : Int).toNat) (fun i H' => Stp [] H1 H' ∧ H' D = some (.lst [])) ⟨Stp.new hD, upd_same⟩ (fun i H' hi h => ?_) (fun H' h => ?_)
      · obtain ⟨s2, hl2⟩ := h
        have hi' : i < ys.length := by omega
        have ha2 := s2.keep _ _ ha1 (by simp)
        have hb2 := s2.keep _ _ hb1 (by simp)
        obtain ⟨x, y, hx, hy, hxy⟩ := pr_get (EqS.st hp1 s2) i (by omega) hi'
        refine ⟨wipe1, ⟨_, rfl, _, rfl, a, _, _, _, rfl, rfl, (.inl (.inl ha2)), at_pos hx, _, rfl, _, rfl, b, _, _, _, rfl, rfl, (.inl (.inl hb2)), at_pos hy, ?_⟩⟩
        refine ⟨x, y, rfl, hxy, fun H3 s3 => ⟨_, rfl, iteF ?_⟩⟩
        exact ⟨s2.trans s3, s3.keep _ _ hl2 (by simp)⟩
      · obtain ⟨s2, hl2⟩ := h
        refine ⟨Nat.zero_le _, fun p hp => ?_⟩
        have s3 := Stp.new (o := .lst []) hp
        refine ⟨_, _, .lst (.inl (.inl (s3.keep _ _ hl2 (by simp)))) .nil, .lst (.inl (.inl upd_same)) .nil, rfl, rfl, ?_⟩
        exact k _ (s1.trans (s2.trans s3))
    rcases h with ⟨i, rfl, rfl⟩ | ⟨x, hx, rfl, rfl⟩ | ⟨rfl, rfl⟩
    · refine ⟨_, pss_cons (ps_if (PW.pt (pw_or (pt_val (b_isi B (pv 1) B.tuple PyProof.Rows.boot_tuple)) (pw_or1 (pt_val (b_isi B (pv 1) B.list PyProof.Rows.boot_list))))) pss_never pss_nil)
      (pss_cons (ps_if (PW.pt (pw_or (pt_cmpR op_isN (pv 1) pe_non (nomark _)) (pw_or1 (pt_cmpR op_isN (pv 0) pe_non (nomark _))))) (pss_one (ps_ret (pe_and (pe_cmpR op_isN (pv 1) pe_non (nomark _)) (pe_one (pe_cmpR op_isN (pv 0) pe_non (nomark _)))))) pss_nil)
      (pss_cons (ps_if (PW.pt (pw_or (pt_val (b_isi B (pv 1) B.bool PyProof.Rows.boot_bool)) (pw_or1 (pt_val (b_isi B (pv 0) B.bool PyProof.Rows.boot_bool))))) pss_never pss_nil)
      (pss_cons (ps_if (pt_val (b_isi B (pv 1) B.str PyProof.Rows.boot_str)) (pss_one (ps_ret (pe_and (b_isi B (pv 0) B.str PyProof.Rows.boot_str) (pe_one (pe_cmpR op_eq (pv 0) (pv 1) (nomark _)))))) pss_nil)
      (pss_one (ps_ret (pe_and (b_isi B (pv 0) B.int PyProof.Rows.boot_int) (pe_one (pe_cmpR op_eq (pv 0) (pv 1) (nomark _))))))))), ?_⟩
      walk_at "rd"
      exact k _ Stp.refl
    · refine ⟨_, pss_cons (ps_if (PW.pt (pw_or (pt_val (b_isi B (pv 1) B.tuple PyProof.Rows.boot_tuple)) (pw_or1 (pt_val (b_isi B (pv 1) B.list PyProof.Rows.boot_list))))) pss_never pss_nil)
      (pss_cons (ps_if (PW.pt (pw_or (pt_cmpR op_isN (pv 1) pe_non (nomark _)) (pw_or1 (pt_cmpR op_isN (pv 0) pe_non (nomark _))))) (pss_one (ps_ret (pe_and (pe_cmpR op_isN (pv 1) pe_non (nomark _)) (pe_one (pe_cmpR op_isN (pv 0) pe_non (nomark _)))))) pss_nil)
      (pss_cons (ps_if (PW.pt (pw_or (pt_val (b_isi B (pv 1) B.bool PyProof.Rows.boot_bool)) (pw_or1 (pt_val (b_isi B (pv 0) B.bool PyProof.Rows.boot_bool))))) pss_never pss_nil)
      (pss_cons (ps_if (pt_val (b_isi B (pv 1) B.str PyProof.Rows.boot_str)) (pss_one (ps_ret (pe_and (b_isi B (pv 0) B.str PyProof.Rows.boot_str) (pe_one (pe_cmpR op_eq (pv 0) (pv 1) (nomark _)))))) pss_nil)
      (pss_one (ps_ret (pe_and (b_isi B (pv 0) B.int PyProof.Rows.boot_int) (pe_one (pe_cmpR op_eq (pv 0) (pv 1) (nomark _))))))))), ?_⟩
      walk_at "rd"
      refine isi_strA (b := false) (by decide +kernel) ?_
      walk_at "rd"
      refine isi_strA (b := false) (by decide +kernel) ?_
      walk_at "rd"
      refine isi_strA (b := false) (by decide +kernel) ?_
      walk_at "rd"
      refine isi_strA (b := false) (by decide +kernel) ?_
      walk_at "rd"
      refine isi_strA (b := true) (by decide +kernel) ?_
      walk_at "rd"
      refine isi_strA (b := true) (by decide +kernel) ?_
      walk_at "rd"
      exact k _ Stp.refl
    · refine ⟨_, pss_cons (ps_if (PW.pt (pw_or (pt_val (b_isi B (pv 1) B.tuple PyProof.Rows.boot_tuple)) (pw_or1 (pt_val (b_isi B (pv 1) B.list PyProof.Rows.boot_list))))) pss_never pss_nil)
      (pss_cons (ps_if (PW.pt (pw_or (pt_cmpR op_isN (pv 1) pe_non (nomark _)) (pw_or1 (pt_cmpR op_isN (pv 0) pe_non (nomark _))))) (pss_one (ps_ret (pe_and (pe_cmpR op_isN (pv 1) pe_non (nomark _)) (pe_one (pe_cmpR op_isN (pv 0) pe_non (nomark _)))))) pss_nil)
      (pss_cons (ps_if (PW.pt (pw_or (pt_val (b_isi B (pv 1) B.bool PyProof.Rows.boot_bool)) (pw_or1 (pt_val (b_isi B (pv 0) B.bool PyProof.Rows.boot_bool))))) pss_never pss_nil)
      (pss_cons (ps_if (pt_val (b_isi B (pv 1) B.str PyProof.Rows.boot_str)) (pss_one (ps_ret (pe_and (b_isi B (pv 0) B.str PyProof.Rows.boot_str) (pe_one (pe_cmpR op_eq (pv 0) (pv 1) (nomark _)))))) pss_nil)
      (pss_one (ps_ret (pe_and (b_isi B (pv 0) B.int PyProof.Rows.boot_int) (pe_one (pe_cmpR op_eq (pv 0) (pv 1) (nomark _))))))))), ?_⟩
      walk_at "rd"
      refine isi_nonA (b := false) (by decide +kernel) ?_
      walk_at "rd"
      refine isi_nonA (b := false) (by decide +kernel) ?_
      walk_at "rd"
      exact k _ Stp.refl
/-! ### what == and != tell of such -/
theorem EqB.dp {H : Hp} {v w' : V} (h : EqB v w') : ∃ d, Dp K H v d ∧ Dp K H w' d ∧ d.canLay0 = true ∧ d.depth ≤ 1 ∧ PyData.eqv d d = true := by
  rcases h with ⟨i, rfl, rfl⟩ | ⟨x, hx, rfl, rfl⟩ | ⟨rfl, rfl⟩
  · exact ⟨_, .int i, .int i, by simp [PyData.canLay0], by simp [PyData.depth], by simp [PyData.eqv]⟩
  · exact ⟨_, .str x, .str x, by simpa [PyData.canLay0] using hx, by simp [PyData.depth], by simp [PyData.eqv]⟩
  · exact ⟨_, .non, .non, by simp [PyData.canLay0], by simp [PyData.depth], by simp [PyData.eqv]⟩
theorem all_dp {H : Hp} {n : Nat} (ih : ∀ v w', EqT K H n v w' → ∃ d, Dp K H v d ∧ Dp K H w' d ∧ d.canLay0 = true ∧ d.depth ≤ n + 1 ∧ PyData.eqv d d = true) : ∀ {xs ys : List V}, Paired (EqT K H n) xs ys →
    ∃ ds, DpAll K H xs ds ∧ DpAll K H ys ds ∧ PyData.canLayAll0 ds = true ∧ PyData.depthAll ds ≤ n + 1 ∧ PyData.eqvAll ds ds = true
  | _, _, .nil => ⟨[], .nil, .nil, by simp [PyData.canLayAll0], by simp [PyData.depthAll], by simp [PyData.eqvAll]⟩
  | _, _, .cons h r => by
    obtain ⟨d, a1, a2, a3, a4, a5⟩ := ih _ _ h
    obtain ⟨ds, b1, b2, b3, b4, b5⟩ := all_dp ih r
    exact ⟨d :: ds, .cons a1 b1, .cons a2 b2, by simp [PyData.canLayAll0, a3, b3], by simp only [PyData.depthAll]; omega, by simp [PyData.eqvAll, a5, b5]⟩
theorem EqT.dp {H : Hp} : ∀ (n : Nat) (v w' : V), EqT K H n v w' → ∃ d, Dp K H v d ∧ Dp K H w' d ∧ d.canLay0 = true ∧ d.depth ≤ n + 1 ∧ PyData.eqv d d = true
  | 0, v, w', h => EqB.dp h
  | n + 1, v, w', h => by
    rcases h with h | ⟨a, b, xs, ys, rfl, rfl, h, _, hp⟩
    · obtain ⟨d, a1, a2, a3, a4, a5⟩ := EqB.dp (K := K) (H := H) h
      exact ⟨d, a1, a2, a3, by omega, a5⟩
    · obtain ⟨ds, b1, b2, b3, b4, b5⟩ := all_dp (EqT.dp n) hp
      rcases h with ⟨h1, h2⟩ | ⟨h1, h2⟩
      · exact ⟨.tuple ds, .tup h1.sq b1, .tup h2.sq b2, by simp [PyData.canLay0, b3], by simp only [PyData.depth]; omega, by simp [PyData.eqv, b5]⟩
      · exact ⟨.list ds, .lst (.inl (.inl h1)) b1, .lst (.inl (.inl h2)) b2, by simp [PyData.canLay0, b3], by simp only [PyData.depth]; omega, by simp [PyData.eqv, b5]⟩
theorem eq_T {H : Hp} {n : Nat} {v w' : V} {Q : VK} (h : EqT K H n v w') (hn : n ≤ 60) (k : Q (.bl true) H) : rEqD K v w' H Q := by
  obtain ⟨d, a1, a2, a3, a4, a5⟩ := EqT.dp n _ _ h
  have hs : SeqAt.shaped d = true := by simp [SeqAt.shaped, a3]; omega
  exact ⟨d, d, a1, a2, hs, hs, by rw [a5]; exact k⟩
theorem ne_T {H : Hp} {n : Nat} {v w' : V} {Q : VK} (h : EqT K H n v w') (hn : n ≤ 60) (k : Q (.bl false) H) : rNeD K v w' H Q := by
  obtain ⟨d, a1, a2, a3, a4, a5⟩ := EqT.dp n _ _ h
  have hs : SeqAt.shaped d = true := by simp [SeqAt.shaped, a3]; omega
  exact ⟨d, d, a1, a2, hs, hs, by rw [a5]; exact k⟩
/-- fractions, pairs -/
theorem EqT.q {H : Hp} {v w' : V} {q : Rat} (h : IsQ K H v q) (g : IsQ K H w' q) : EqT K H 1 v w' := by
  obtain ⟨a, rfl, ha⟩ := h
  obtain ⟨b, rfl, hb⟩ := g
  exact .inr ⟨a, b, _, _, rfl, rfl, .inl ⟨ha, hb⟩, by show 2 ≤ 100000; decide, .cons (.inl ⟨_, rfl, rfl⟩) (.cons (.inl ⟨_, rfl, rfl⟩) .nil)⟩
end
end Mx

namespace Mx
open PySem L2
theorem row_mv {K : PySem.W.Frag} {H0 H H' : Hp} {F : List Addr} {r sc : Addr} {ns : List Int} (h0 : RowAt K H0 r sc ns) (h : RowAt K H r sc ns) (s : Stp F H H') (hr : r ∉ F) (s0 : Stp [r] H0 H') : RowAt K H' r sc ns := by
  obtain ⟨_, _, _, _, _, _, hs, hn⟩ := h0
  obtain ⟨pos, mix, p0, m0, m1, hrr, _, _⟩ := h
  exact ⟨pos, mix, p0, m0, m1, s.keep _ _ hrr hr, seq_or hs s0 hn, hn⟩
theorem dpAll_len {K : PySem.W.Frag} {H : Hp} : ∀ {vs : List V} {ds : List PyData}, DpAll K H vs ds → vs.length = ds.length
  | _, _, .nil => rfl
  | _, _, .cons _ r => by rw [List.length_cons, List.length_cons, dpAll_len r]
theorem ne_nilL {K : PySem.W.Frag} {H : Hp} {a b : Addr} {vs : List V} {n : Nat} {Q : VK} (ha : H a = some (.lst vs)) (hb : H b = some (.lst [])) (h : Paired (EqT K H n) vs vs) (hn : n ≤ 60) (k : Q (.bl (!vs.isEmpty)) H) : rNeD K (.ref a) (.ref b) H Q := by
  obtain ⟨ds, b1, _, b3, b4, _⟩ := all_dp (EqT.dp n) h
  have hs : SeqAt.shaped (.list ds) = true := by
    have : (PyData.list ds).depth ≤ 64 := by simp only [PyData.depth]; omega
    simp [SeqAt.shaped, PyData.canLay0, b3, this]
  refine ⟨.list ds, .list [], .lst (.inl (.inl ha)) b1, .lst (.inl (.inl hb)) .nil, hs, rfl, ?_⟩
  have e : PyData.eqv (.list ds) (.list []) = vs.isEmpty := by
    have := dpAll_len b1
    cases ds with
    | nil => 
      have : vs = [] := List.length_eq_zero_iff.mp this
      rw [this]
      rfl
    | cons d r =>
      cases vs with
      | nil => simp at this
      | cons v t => rfl
  rw [e]
  exact k
theorem ints_refl {K : PySem.W.Frag} {H : Hp} {n : Nat} : ∀ (ns : List Int), Paired (EqT K H n) (ns.map V.int) (ns.map V.int)
  | [] => .nil
  | i :: r => .cons (by cases n with | zero => exact .inl ⟨i, rfl, rfl⟩ | succ n => exact .inl (.inl ⟨i, rfl, rfl⟩)) (ints_refl r)
end Mx

namespace Mx
open PySem L2
theorem lc_rel {J : It} {n : Nat} {G : Hp → Prop} {Y : Nat → Hp → V → Hp → Prop} (w : Walk J n G Y) {F : List Addr} {H1 H9 : Hp} {i : Nat} {tt : TT} {te : TE} {σ : L2.St} {Q : VK} (Z : Hp → Prop) (R : Hp → Nat → V → Prop) (p : Nat → Bool) (YX : Nat → V → Prop)
    (z1 : Z H1) (hF : ∀ b ∈ F, H1 b ≠ none) (hz : ∀ D H H', H1 D = none → Z H → Stp [D] H H' → Stp F H1 H' → Z H') (hG : ∀ H, Z H → Stp F H1 H → G H) (hR : ∀ F' H H' j y, R H j y → Stp F' H H' → R H' j y) (hn : n ≤ 100000)
    (hY : ∀ j H x H', j < n → Y j H x H' → H' = H ∧ YX j x)
    (ht : ∀ j x H, j < n → YX j x → Z H → Stp F H1 H → ∀ Q' : Bool → Hp → Prop, (∀ H', Z H' → Stp F H1 H' → Stp F H H' → Q' (p j) H') → tt ((wipe σ [i]).set i (some x)) H Q')
    (he : ∀ j x H, j < n → YX j x → p j = true → Z H → Stp F H1 H → ∀ Q' : VK, (∀ y H', R H' j y → Z H' → Stp F H1 H' → Stp F H H' → Q' y H') → te ((wipe σ [i]).set i (some x)) H Q')
    (k : ∀ D H' ys, H1 D = none → Z H' → Stp F H1 H' → H' D = some (.lst ys) → Paired (R H') ((List.range n).filter p) ys → Q (.ref D) H') :
    tLc (fun _ _ R => R J H1) (gName i) tt te [i] σ H9 Q := by
  intro D hD
  have hDF : D ∉ F := fun z => hF D z hD
  refine lc_it w (fun m H => Z H ∧ Stp F H1 H ∧ ∃ ys, H D = some (.lst ys) ∧ Paired (R H) ((List.range m).filter p) ys) ⟨hz D _ _ hD z1 ((Stp.new hD).sub (by simp)) ((Stp.new hD).sub (by simp)), (Stp.new hD).sub (by simp), [], upd_same, .nil⟩ (fun m H _ h => hG H h.1 h.2.1) (fun m x H H' hm h hy => ?_) (fun H h => ?_)
  · obtain ⟨rfl, hx⟩ := hY m H x H' hm hy
    obtain ⟨z, sm, ys, hD2, hp⟩ := h
    refine ⟨wipe1, ?_⟩
    have ef : (List.range (m + 1)).filter p = (List.range m).filter p ++ if p m = true then [m] else [] := by
      rw [List.range_succ, List.filter_append]
      congr 1
      rw [List.filter_cons, List.filter_nil]
    refine ht m x _ hm hx z sm _ fun H2 z2 s2 s2' => ?_
    have hD3 := s2'.keep _ _ hD2 hDF
    have hp2 : Paired (R H2) ((List.range m).filter p) ys := pr_map (fun _ _ q => hR _ _ _ _ _ q s2') hp
    cases e : p m with
    | false =>
      rw [if_neg (by simp)]
      rw [e] at ef
      exact ⟨z2, s2, ys, hD3, by rw [ef]; simpa using hp2⟩
    | true =>
      rw [if_pos rfl]
      rw [e] at ef
      refine he m x _ hm hx e z2 s2 _ fun y H3 hy3 z3 s3 s3' => ?_
      have hD4 := s3'.keep _ _ hD3 hDF
      have sP := Stp.put (o := .lst (ys ++ [y])) hD4 (fun xs z => nomatch z)
      have sA : Stp F H1 (upd H3 D (.lst (ys ++ [y]))) := (s3.trans sP).subN fun b hb => by
        rcases List.mem_append.mp hb with q | q
        · exact .inl q
        · exact .inr (List.mem_singleton.mp q ▸ hD)
      refine ⟨ys, hD4, ?_, hz D _ _ hD z3 sP sA, sA, ys ++ [y], upd_same, ?_⟩
      · rw [← hp.length]
        exact Nat.lt_of_le_of_lt (Nat.le_trans (List.length_filter_le _ _) (by rw [List.length_range]; exact show m ≤ 100000 by omega)) (by decide)
      · rw [ef]
        exact (pr_map (fun _ _ q => hR _ _ _ _ _ q (s3'.trans sP)) hp2).snoc (hR _ _ _ _ _ hy3 sP)
  · obtain ⟨z, sm, ys, hD2, hp⟩ := h
    exact k D H ys hD z sm hD2 hp
/-- a comprehension that draws whole numbers, so many as a range tells -/
theorem lc_rowI {K : PySem.W.Frag} {r sc : Addr} {ns : List Int} {H1 : Hp} {n : Nat} {ta : TA} {i : Nat} {te : TE} {σ : L2.St} {Q : VK} (lo hi : Int) (hR : RowAt K H1 r sc ns) (hn : n ≤ 100000) (hta : ∀ R : List V → Hp → Prop, R [.int (n : Int)] H1 → ta σ H1 R)
    (he : ∀ x H, RowAt K H r sc ns → ∀ Q' : VK, (∀ v H', lo ≤ v → v ≤ hi → RowAt K H' r sc ns → Stp [r] H H' → Q' (.int v) H') → te ((wipe σ [i]).set i (some x)) H Q')
    (k : ∀ D H' (xs : List Int), H1 D = none → RowAt K H' r sc ns → Stp [r] H1 H' → H' D = some (.lst (xs.map V.int)) → xs.length = n → (∀ v ∈ xs, lo ≤ v ∧ v ≤ hi) → Q (.ref D) H') :
    tLc (iRng1 ta) (gName i) tYes te [i] σ H1 Q := by
  refine hta _ ⟨_, rfl, by omega, by omega, ?_⟩
  refine lc_rel (H9 := H1) (walk_range (lo := 0) (n := n)) (F := [r]) (Z := fun H => RowAt K H r sc ns) (R := fun _ _ y => ∃ v : Int, y = .int v ∧ lo ≤ v ∧ v ≤ hi) (p := fun _ => true) (YX := fun _ _ => True) hR ?_ ?_ (fun _ _ _ => trivial) (fun _ _ _ _ _ h _ => h) hn (fun j H x H' _ h => ⟨h.1, trivial⟩) (fun j x H _ _ z s Q' q => q H z s (Stp.refl.sub (by simp))) (fun j x H _ _ _ z s Q' q => ?_) fun D H' ys hD z s hl hp => ?_
  · intro b hb
    rw [List.mem_singleton.mp hb]
    obtain ⟨_, _, _, _, _, z, _⟩ := hR
    rw [z]
    exact nofun
  · intro D H H' hD z s s0
    exact row_mv hR z s (by simpa using (row_ne hR hD).symm) s0
  · exact he x H z Q' fun v H' v0 v1 hR' s' => q _ H' ⟨v, rfl, v0, v1⟩ hR' ((s.trans s').sub (by simp)) s'
  · have : ∀ {js : List Nat} {ys : List V}, Paired (fun (_ : Nat) y => ∃ v : Int, y = .int v ∧ lo ≤ v ∧ v ≤ hi) js ys → ∃ xs : List Int, ys = xs.map V.int ∧ xs.length = js.length ∧ ∀ v ∈ xs, lo ≤ v ∧ v ≤ hi := by
      intro js ys h
      induction h with
      | nil => exact ⟨[], rfl, rfl, by simp⟩
      | cons h _ ih =>
        obtain ⟨v, rfl, v0, v1⟩ := h
        obtain ⟨xs, rfl, e, q⟩ := ih
        refine ⟨v :: xs, rfl, by simp [e], fun u hu => ?_⟩
        rcases List.mem_cons.mp hu with rfl | hu
        · exact ⟨v0, v1⟩
        · exact q u hu
    obtain ⟨xs, rfl, e, q⟩ := this hp
    refine k D H' xs hD z s hl ?_ q
    rw [e, List.filter_eq_self.mpr (fun _ _ => rfl), List.length_range]
/-- pairs of whole numbers over a range -/
theorem lc_pairs {H1 : Hp} {n : Nat} {ta : TA} {i : Nat} {te : TE} {σ : L2.St} {Q : VK} (f g : Nat → Int) (hn : n ≤ 100000) (hta : ∀ R : List V → Hp → Prop, R [.int (n : Int)] H1 → ta σ H1 R)
    (he : ∀ (j : Nat) H, j < n → ∀ Q' : VK, (∀ t H', H' t = some (.tup [.int (f j), .int (g j)]) → Stp [] H H' → Q' (.ref t) H') → te ((wipe σ [i]).set i (some (.int (0 + (j : Int))))) H Q')
    (k : ∀ D H' (ts : List Addr), H1 D = none → Stp [] H1 H' → H' D = some (.lst (ts.map V.ref)) → Paired (fun (j : Nat) t => H' t = some (.tup [.int (f j), .int (g j)])) (List.range n) ts → Q (.ref D) H') :
    tLc (iRng1 ta) (gName i) tYes te [i] σ H1 Q := by
  refine hta _ ⟨_, rfl, by omega, by omega, ?_⟩
  refine lc_rel (H9 := H1) (walk_range (lo := 0) (n := n)) (F := []) (Z := fun _ => True) (R := fun H j y => ∃ t, y = .ref t ∧ H t = some (.tup [.int (f j), .int (g j)])) (p := fun _ => true) (YX := fun j x => x = .int (0 + (j : Int))) trivial (by simp) (fun _ _ _ _ _ _ _ => trivial) (fun _ _ _ => trivial) (fun F' H H' j y h s => ?_) hn (fun j H x H' _ h => h) (fun j x H _ _ z s Q' q => q H trivial s Stp.refl) (fun j x H hj hx _ z s Q' q => ?_) fun D H' ys hD z s hl hp => ?_
  · obtain ⟨t, rfl, h⟩ := h
    exact ⟨t, rfl, s.tup _ _ h⟩
  · subst hx
    exact he j H hj Q' fun t H' h s' => q _ H' ⟨t, rfl, h⟩ trivial (s.trans s') s'
  · rw [List.filter_eq_self.mpr (fun _ _ => rfl)] at hp
    have : ∀ {js : List Nat} {ys : List V}, Paired (fun (j : Nat) y => ∃ t, y = .ref t ∧ H' t = some (.tup [.int (f j), .int (g j)])) js ys → ∃ ts : List Addr, ys = ts.map V.ref ∧ Paired (fun (j : Nat) t => H' t = some (.tup [.int (f j), .int (g j)])) js ts := by
      intro js ys h
      induction h with
      | nil => exact ⟨[], rfl, .nil⟩
      | cons h _ ih =>
        obtain ⟨t, rfl, h⟩ := h
        obtain ⟨ts, rfl, q⟩ := ih
        exact ⟨t :: ts, rfl, .cons h q⟩
    obtain ⟨ts, rfl, q⟩ := this hp
    exact k D H' ts hD s hl q
end Mx
namespace Mx
open PySem L2
/-- a comprehension over a dict's keys -/
theorem lc_keysR {d : Addr} {o : Obj} {kvs : List (Key × V)} {F : List Addr} {H1 : Hp} {i v : Nat} {tt : TT} {te : TE} {σ : L2.St} {Q : VK} (hv : σ[v]? = some (some (.ref d))) (hd : H1 d = some (.frz o (.dK kvs))) (hdF : d ∉ F) (Z : Hp → Prop) (R : Hp → Nat → V → Prop) (p : Nat → Bool)
    (z1 : Z H1) (hF : ∀ b ∈ F, H1 b ≠ none) (hz : ∀ D H H', H1 D = none → Z H → Stp [D] H H' → Stp F H1 H' → Z H') (hR : ∀ F' H H' j y, R H j y → Stp F' H H' → R H' j y) (hn : kvs.length ≤ 100000)
    (ht : ∀ j k w H, kvs[j]? = some (k, w) → Z H → Stp F H1 H → ∀ Q' : Bool → Hp → Prop, (∀ H', Z H' → Stp F H1 H' → Stp F H H' → Q' (p j) H') → tt ((wipe σ [i]).set i (some (kV k))) H Q')
    (he : ∀ j k w H, kvs[j]? = some (k, w) → p j = true → Z H → Stp F H1 H → ∀ Q' : VK, (∀ y H', R H' j y → Z H' → Stp F H1 H' → Stp F H H' → Q' y H') → te ((wipe σ [i]).set i (some (kV k))) H Q')
    (k : ∀ D H' ys, H1 D = none → Z H' → Stp F H1 H' → H' D = some (.lst ys) → Paired (R H') ((List.range kvs.length).filter p) ys → Q (.ref D) H') :
    tLc (iKeys (tVar v)) (gName i) tt te [i] σ H1 Q := by
  refine ⟨_, hv, d, o, rfl, .inl ⟨kvs, hd, ?_⟩⟩
  refine lc_rel (H9 := H1) (Q := Q) walk_keys (F := F) Z R p (fun j x => ∃ k w, kvs[j]? = some (k, w) ∧ x = kV k) z1 hF hz (fun H _ s => s.keep _ _ hd hdF) hR hn (fun j H x H' _ hy => ?_) (fun j x H _ hx z s Q' qq => ?_) (fun j x H _ hx hp z s Q' qq => ?_) k
  · obtain ⟨e, kk, w, hk, hx⟩ := hy
    exact ⟨e, kk, w, hk, hx⟩
  · obtain ⟨kk, w, hk, rfl⟩ := hx
    exact ht j kk w H hk z s Q' qq
  · obtain ⟨kk, w, hk, rfl⟩ := hx
    exact he j kk w H hk hp z s Q' qq
end Mx

namespace Mx
open PySem L2 TL
/-! ### texts of numbers -/
def numT (i : Int) : List Nat := if i < 0 then 45 :: numL i.natAbs else numL i.natAbs
abbrev numS (i : Int) : Str := Str.ofString (toString i)
theorem tl_numS (i : Int) : tl (numS i) = numT i := by
  cases i with
  | ofNat n =>
    show tl (Str.ofString (toString ((n : Nat) : Int))) = _
    rw [tl_num]
    rfl
  | negSucc n =>
    show tl (Str.ofString ("-" ++ toString (n + 1))) = _
    rw [tl_ofString, String.toList_append, List.map_append]
    have h := tl_num (n + 1)
    rw [tl_ofString] at h
    have e : (toString (((n + 1 : Nat)) : Int)).toList.map Char.toNat = (toString (n + 1)).toList.map Char.toNat := rfl
    rw [e] at h
    rw [h]
    unfold numT
    rw [if_pos (Int.negSucc_lt_zero n)]
    rfl
theorem numT_inj {i j : Int} (h : numT i = numT j) : i = j := by
  unfold numT at h
  have nf : ∀ n : Nat, (45 : Nat) ∉ numL n := fun n => numL_free (.inl (by decide))
  by_cases hi : i < 0 <;> by_cases hj : j < 0
  · rw [if_pos hi, if_pos hj] at h
    have := numL_inj (List.cons.inj h).2
    omega
  · rw [if_pos hi, if_neg hj] at h
    exact absurd (h ▸ List.mem_cons_self) (nf j.natAbs)
  · rw [if_neg hi, if_pos hj] at h
    exact absurd (h ▸ List.mem_cons_self) (nf i.natAbs)
  · rw [if_neg hi, if_neg hj] at h
    have := numL_inj h
    omega
theorem numS_inj {i j : Int} (h : numS i = numS j) : i = j := numT_inj (by rw [← tl_numS, ← tl_numS, h])
theorem numT_free {i : Int} {s : Nat} (h : s < 45 ∨ 57 < s) : s ∉ numT i := by
  have := numL_free (n := i.natAbs) (s := s) (by omega)
  unfold numT
  split
  · simp only [List.mem_cons, not_or]
    exact ⟨by omega, this⟩
  · exact this
theorem numT_len {i : Int} (h0 : -999 ≤ i) (h1 : i ≤ 999) : (numT i).length ≤ 4 := by
  have := numL_len (n := i.natAbs) (k := 3) (by decide) (by omega)
  unfold numT
  split
  · rw [List.length_cons]; omega
  · omega
theorem numT_ne (i : Int) : numT i ≠ [] := by
  unfold numT
  split
  · simp
  · exact numL_ne _
/-! ### a word read as a number -/
def isFig (c : Nat) : Bool := decide (48 ≤ c) && decide (c ≤ 57)
def figs : List Nat → List Nat
  | 45 :: r => r
  | l => l
def neg? : List Nat → Bool
  | 45 :: _ => true
  | _ => false
def okF (L : List Nat) : Bool := decide (1 ≤ (figs L).length ∧ (figs L).length ≤ 3) && (figs L).all isFig
def valF (L : List Nat) : Int := if neg? L = true then -((NumText.digitsVal (figs L) : Nat) : Int) else ((NumText.digitsVal (figs L) : Nat) : Int)
def numO (w : Str) : Option Int := if okF (tl w) = true then (if numT (valF (tl w)) = tl w then some (valF (tl w)) else none) else none
theorem figs_neg {L : List Nat} (h : neg? L = true) : L = 45 :: figs L := by
  unfold neg? at h
  split at h
  · rfl
  · cases h
theorem figs_pos {L : List Nat} (h : neg? L = false) : figs L = L := by
  unfold neg? at h
  split at h
  · cases h
  · rename_i hne
    unfold figs
    split
    · rename_i r
      exact absurd rfl (hne r)
    · rfl
theorem all_fig {l : List Nat} (h : l.all isFig = true) : NumText.AllDigits l := by
  intro c hc
  have := List.all_eq_true.mp h c hc
  unfold isFig at this
  simp only [Bool.and_eq_true, decide_eq_true_eq] at this
  exact this
theorem fig_all {l : List Nat} (h : NumText.AllDigits l) : l.all isFig = true := by
  refine List.all_eq_true.mpr fun c hc => ?_
  have := h c hc
  unfold isFig
  simp only [Bool.and_eq_true, decide_eq_true_eq]
  exact this
theorem int_okF {w : Str} (h : okF (tl w) = true) : PySem.intText? w = some (valF (tl w)) := by
  unfold okF at h
  simp only [Bool.and_eq_true, decide_eq_true_eq] at h
  obtain ⟨⟨h1, h2⟩, h3⟩ := h
  have hd := all_fig h3
  have hne : figs (tl w) ≠ [] := fun z => by rw [z] at h1; simp at h1
  cases hn : neg? (tl w) with
  | true =>
    have e := figs_neg hn
    have hl : w.length ≤ 4300 := by rw [len_tl, e, List.length_cons]; omega
    rw [intText_neg e hd hne hl]
    unfold valF
    rw [if_pos hn]
  | false =>
    have e := figs_pos hn
    rw [e] at hd hne h2
    have hl : w.length ≤ 4300 := by rw [len_tl]; omega
    rw [intText_digits hd hne hl]
    unfold valF
    rw [if_neg (by simp [hn]), e]
theorem numT_neg {i : Int} (h : i < 0) : numT i = 45 :: numL i.natAbs := if_pos h
theorem numT_pos {i : Int} (h : ¬ i < 0) : numT i = numL i.natAbs := if_neg h
theorem neg_numL (n : Nat) : neg? (numL n) = false := by
  cases h : neg? (numL n) with
  | false => rfl
  | true =>
    have := figs_neg h
    exact absurd (this ▸ List.mem_cons_self) (numL_free (n := n) (s := 45) (.inl (by decide)))
theorem okF_num {i : Int} (h0 : -999 ≤ i) (h1 : i ≤ 999) : okF (numT i) = true := by
  have hl := numL_len (n := i.natAbs) (k := 3) (by decide) (by omega)
  have hn : 1 ≤ (numL i.natAbs).length := by
    have := numL_ne i.natAbs
    cases e : numL i.natAbs with
    | nil => exact absurd e this
    | cons => simp
  have ha := fig_all (numL_digits i.natAbs)
  have hf : figs (numT i) = numL i.natAbs := by
    by_cases h : i < 0
    · rw [numT_neg h]; rfl
    · rw [numT_pos h]; exact figs_pos (neg_numL _)
  unfold okF
  rw [hf, ha, decide_eq_true ⟨hn, hl⟩]
  rfl
theorem valF_num {i : Int} : valF (numT i) = i := by
  unfold valF
  by_cases h : i < 0
  · have e := numT_neg h
    rw [e, if_pos (show neg? (45 :: numL i.natAbs) = true from rfl)]
    show -(((NumText.digitsVal (numL i.natAbs) : Nat)) : Int) = i
    rw [numL_val]
    omega
  · rw [numT_pos h, if_neg (by rw [neg_numL]; simp), figs_pos (neg_numL _), numL_val]
    omega
theorem numO_num {i : Int} (h0 : -999 ≤ i) (h1 : i ≤ 999) : numO (numS i) = some i := by
  unfold numO
  rw [tl_numS, if_pos (okF_num h0 h1), valF_num, if_pos rfl]
theorem numO_some {w : Str} {i : Int} (h : numO w = some i) : w = numS i ∧ -999 ≤ i ∧ i ≤ 999 := by
  unfold numO at h
  split at h
  · rename_i hk
    split at h
    · rename_i he
      cases h
      refine ⟨ext_tl (by rw [tl_numS, he]), ?_⟩
      unfold okF at hk
      simp only [Bool.and_eq_true, decide_eq_true_eq] at hk
      obtain ⟨⟨h1, h2⟩, h3⟩ := hk
      have hb : ∀ l : List Nat, l.all isFig = true → l.length ≤ 3 → NumText.digitsVal l ≤ 999 := by
        intro l ha hl
        have hx : ∀ c ∈ l, c ≤ 57 := fun c hc => (all_fig ha c hc).2
        match l, hl with
        | [], _ => decide
        | [a], _ => have := hx a (by simp); simp only [NumText.digitsVal, List.foldl_cons, List.foldl_nil]; omega
        | [a, b], _ => have := hx a (by simp); have := hx b (by simp); simp only [NumText.digitsVal, List.foldl_cons, List.foldl_nil]; omega
        | [a, b, c], _ => have := hx a (by simp); have := hx b (by simp); have := hx c (by simp); simp only [NumText.digitsVal, List.foldl_cons, List.foldl_nil]; omega
        | a :: b :: c :: d :: r, hl => simp only [List.length_cons] at hl; omega
      have := hb _ h3 h2
      unfold valF
      split <;> omega
    · cases h
  · cases h
/-! ### the sign ahead, left out -/
theorem tl_noPre (w : Str) : tl (Txt.removeprefix w (Str.ofString "-")) = figs (tl w) := by
  have hy : tl (Str.ofString "-") = [45] := by rw [tl_ofString]; rfl
  have hyl : (Str.ofString "-").length = 1 := by rw [len_tl, hy]; rfl
  unfold Txt.removeprefix
  have hs : Builtin.Str.subAt w (Str.ofString "-") 0 = ((tl w).take 1 == [45]) := by
    rw [StrLaws.subAt_eq, hyl]
    show (((tl w).drop 0).take 1 == tl (Str.ofString "-")) = _
    rw [hy, List.drop_zero]
  rw [hs, hyl]
  cases hn : neg? (tl w) with
  | true =>
    have e := figs_neg hn
    have hb : ((tl w).take 1 == [45]) = true := by rw [e]; rfl
    have hl : w.length = (figs (tl w)).length + 1 := by
      rw [len_tl]
      conv => lhs; rw [e]
      rw [List.length_cons]
    rw [if_pos hb]
    unfold Txt.affix
    dsimp only
    rw [if_neg (by simp; omega)]
    rw [tl_strSub_end]
    conv => lhs; rw [e]
    rfl
  | false =>
    have e := figs_pos hn
    have hb : ¬ ((tl w).take 1 == [45]) = true := by
      intro z
      cases hw : tl w with
      | nil => rw [hw] at z; cases z
      | cons c r =>
        rw [hw] at z hn
        have : c = 45 := by simpa using z
        subst this
        cases hn
    rw [if_neg hb, e]
    rfl
theorem fig_in (c : Nat) : decide (c ∈ (Str.ofString "0123456789").cps.toList) = isFig c := by
  have h : (Str.ofString "0123456789").cps.toList = [48, 49, 50, 51, 52, 53, 54, 55, 56, 57] := by
    show tl (Str.ofString "0123456789") = _
    rw [tl_ofString]
    rfl
  rw [h]
  unfold isFig
  rw [Bool.eq_iff_iff]
  simp only [List.mem_cons, List.not_mem_nil, or_false, decide_eq_true_eq, Bool.and_eq_true]
  omega
end Mx

namespace Mx
open PySem L2 TL
/-! ### deeds as data, and their rows -/
/-- what stands in a deed behind its word: a number or none, or a tuple of such -/
abbrev RV := Sum (Option Int) (List (Option Int))
def oV : Option Int → V
  | none => .non
  | some i => .int i
structure DD where
  w : Str
  rs : List RV
def RVat (K : PySem.W.Frag) (H : Hp) : RV → V → Prop
  | .inl o, v => v = oV o
  | .inr xs, v => ∃ t, v = .ref t ∧ TupAt K H t (xs.map oV)
theorem RVat.st {K : PySem.W.Frag} {F : List Addr} {H H' : Hp} {r : RV} {v : V} (h : RVat K H r v) (s : Stp F H H') : RVat K H' r v := by
  cases r with
  | inl o => exact h
  | inr xs =>
    obtain ⟨t, e, ht⟩ := h
    exact ⟨t, e, ht.st s⟩
def DD.at (K : PySem.W.Frag) (H : Hp) (a : Addr) (d : DD) : Prop := ∃ vs, TupAt K H a (.str d.w :: vs) ∧ Paired (RVat K H) d.rs vs
theorem pr_mapR {α β : Type} {R S : α → β → Prop} (f : ∀ a b, R a b → S a b) : ∀ {xs : List α} {ys : List β}, Paired R xs ys → Paired S xs ys
  | _, _, .nil => .nil
  | _, _, .cons h r => .cons (f _ _ h) (pr_mapR f r)
theorem DD.at.st {K : PySem.W.Frag} {F : List Addr} {H H' : Hp} {a : Addr} {d : DD} (h : d.at K H a) (s : Stp F H H') : d.at K H' a := by
  obtain ⟨vs, h1, h2⟩ := h
  exact ⟨vs, h1.st s, pr_mapR (fun _ _ q => q.st s) h2⟩
def partsT : List (Str × Nat) := [("add", 5), ("parcel", 3), ("end", 2), ("lead", 3), ("hush", 1), ("wake", 1), ("beat", 0)]
def okN (lo hi : Int) : Option Int → Bool
  | some i => decide (lo ≤ i ∧ i ≤ hi)
  | none => false
def okP : RV → Bool
  | .inl o => okN 0 999 o
  | .inr _ => false
def okT : RV → Bool
  | .inr xs => decide (1 ≤ xs.length ∧ xs.length ≤ 32) && xs.all (okN (-999) 999)
  | .inl _ => false
def okD (d : DD) : Bool := decide ((d.w, d.rs.length) ∈ partsT) && (if d.w = "parcel" then (d.rs.take 2).all okP && okT (d.rs.getD 2 (.inl none)) else d.rs.all okP)
/-! ### their texts -/
def rvTxt : RV → Str
  | .inl o => numS (o.getD 0)
  | .inr xs => Txt.join "," (xs.map fun o => numS (o.getD 0))
def rowTxt (d : DD) : Str := Txt.join " " (d.w :: d.rs.map rvTxt)
def rdParts (W : List Str) : List RV :=
  if W.headD Str.empty = "parcel" ∧ (W.drop 1).length = 3 then ((W.drop 1).map fun w => (Sum.inl (numO w) : RV)).set 2 (.inr ((Txt.split (W.getD 3 Str.empty) ",").map numO)) else (W.drop 1).map fun w => .inl (numO w)
def rdRow (z : Str) : DD := ⟨(Txt.split z " ").headD Str.empty, rdParts (Txt.split z " ")⟩
/-! joined texts -/
theorem tl_sp : tl (Str.ofString " ") = [32] := by rw [tl_ofString]; rfl
theorem tl_com : tl (Str.ofString ",") = [44] := by rw [tl_ofString]; rfl
theorem tl_nl : tl (Str.ofString "\n") = [10] := by rw [tl_ofString]; rfl
theorem mem_joinL {S : List Nat} {c : Nat} (hS : c ∉ S) : ∀ {ps : List (List Nat)}, (∀ p ∈ ps, c ∉ p) → c ∉ joinL S ps
  | [], _ => by simp [joinL]
  | [p], h => h p (by simp)
  | p :: q :: r, h => by
    show c ∉ p ++ (S ++ joinL S (q :: r))
    simp only [List.mem_append, not_or]
    exact ⟨h p (by simp), hS, mem_joinL hS fun z hz => h z (List.mem_cons_of_mem _ hz)⟩
theorem len_joinL {S : List Nat} {k : Nat} (hS : S.length ≤ 1) : ∀ {ps : List (List Nat)}, (∀ p ∈ ps, p.length ≤ k) → (joinL S ps).length ≤ ps.length * (k + 1)
  | [], _ => by simp [joinL]
  | [p], h => by
    have := h p (by simp)
    show p.length ≤ 1 * (k + 1)
    omega
  | p :: q :: r, h => by
    have h1 := h p (by simp)
    have h2 := len_joinL (S := S) (k := k) hS (ps := q :: r) fun z hz => h z (List.mem_cons_of_mem _ hz)
    show (p ++ (S ++ joinL S (q :: r))).length ≤ (r.length + 1 + 1) * (k + 1)
    rw [List.length_append, List.length_append]
    have e : (r.length + 1 + 1) * (k + 1) = (q :: r).length * (k + 1) + (k + 1) := by rw [List.length_cons, Nat.succ_mul]
    rw [e]
    omega
theorem free_join {y : Str} {c : Nat} (hy : c ∉ tl y) {ps : List Str} (h : ∀ p ∈ ps, c ∉ tl p) : c ∉ tl (Txt.join y ps) := by
  rw [join_eq, tl_join]
  refine mem_joinL hy fun p hp => ?_
  obtain ⟨z, hz, rfl⟩ := List.mem_map.mp hp
  exact h z hz
theorem len_join {y : Str} {k : Nat} (hy : (tl y).length ≤ 1) {ps : List Str} (h : ∀ p ∈ ps, p.length ≤ k) : (Txt.join y ps).length ≤ ps.length * (k + 1) := by
  rw [join_eq, len_tl, tl_join]
  refine Nat.le_trans (len_joinL hy (k := k) fun p hp => ?_) (by rw [List.length_map]; exact Nat.le_refl _)
  obtain ⟨z, hz, rfl⟩ := List.mem_map.mp hp
  rw [← len_tl]
  exact h z hz
theorem sum_len {k : Nat} : ∀ {ps : List Str}, (∀ p ∈ ps, p.length ≤ k) → (ps.map (·.length)).sum ≤ ps.length * k
  | [], _ => by simp
  | p :: r, h => by
    have h1 := h p (by simp)
    have h2 := sum_len (ps := r) fun z hz => h z (List.mem_cons_of_mem _ hz)
    simp only [List.map_cons, List.sum_cons, List.length_cons, Nat.succ_mul]
    omega
/-- what a deed that can be is made of -/
structure Good (d : DD) : Prop where
  mem : (d.w, d.rs.length) ∈ partsT
  c : (d.w ≠ "parcel" ∧ ∃ ns : List Int, d.rs = ns.map (fun i => (Sum.inl (some i) : RV)) ∧ ∀ i ∈ ns, 0 ≤ i ∧ i ≤ 999) ∨
    (d.w = "parcel" ∧ ∃ (n pl : Int) (xs : List Int), d.rs = [.inl (some n), .inl (some pl), .inr (xs.map some)] ∧ (0 ≤ n ∧ n ≤ 999) ∧ (0 ≤ pl ∧ pl ≤ 999) ∧ (1 ≤ xs.length ∧ xs.length ≤ 32) ∧ ∀ i ∈ xs, -999 ≤ i ∧ i ≤ 999)
theorem okN_iff {lo hi : Int} {o : Option Int} (h : okN lo hi o = true) : ∃ i, o = some i ∧ lo ≤ i ∧ i ≤ hi := by
  cases o with
  | none => cases h
  | some i => exact ⟨i, rfl, by simpa [okN] using h⟩
theorem all_okN {lo hi : Int} : ∀ {xs : List (Option Int)}, xs.all (okN lo hi) = true → ∃ ns : List Int, xs = ns.map some ∧ ∀ i ∈ ns, lo ≤ i ∧ i ≤ hi
  | [], _ => ⟨[], rfl, by simp⟩
  | o :: r, h => by
    simp only [List.all_cons, Bool.and_eq_true] at h
    obtain ⟨i, rfl, hi⟩ := okN_iff h.1
    obtain ⟨ns, rfl, hn⟩ := all_okN h.2
    exact ⟨i :: ns, rfl, fun j hj => (List.mem_cons.mp hj).elim (fun e => e ▸ hi) (hn j)⟩
theorem all_okP : ∀ {xs : List RV}, xs.all okP = true → ∃ ns : List Int, xs = ns.map (fun i => (Sum.inl (some i) : RV)) ∧ ∀ i ∈ ns, 0 ≤ i ∧ i ≤ 999
  | [], _ => ⟨[], rfl, by simp⟩
  | o :: r, h => by
    simp only [List.all_cons, Bool.and_eq_true] at h
    cases o with
    | inr => exact absurd h.1 (by simp [okP])
    | inl o =>
      obtain ⟨i, rfl, hi⟩ := okN_iff h.1
      obtain ⟨ns, rfl, hn⟩ := all_okP h.2
      exact ⟨i :: ns, rfl, fun j hj => (List.mem_cons.mp hj).elim (fun e => e ▸ hi) (hn j)⟩
theorem Good.of {d : DD} (h : okD d = true) : Good d := by
  unfold okD at h
  simp only [Bool.and_eq_true, decide_eq_true_eq] at h
  obtain ⟨hm, h⟩ := h
  refine ⟨hm, ?_⟩
  by_cases hw : d.w = "parcel"
  · rw [if_pos hw] at h
    have hl : d.rs.length = 3 := by
      have hm' := hm
      rw [hw] at hm'
      unfold partsT at hm'
      simp only [List.mem_cons, Prod.mk.injEq, List.not_mem_nil, or_false, ofString_inj, String.reduceEq, false_and, true_and, false_or] at hm'
      exact hm'
    refine .inr ⟨hw, ?_⟩
    match hr : d.rs, hl with
    | [a, b, c], _ =>
      rw [hr] at h
      simp only [Bool.and_eq_true] at h
      obtain ⟨h1, h2⟩ := h
      obtain ⟨ns, e, hn⟩ := all_okP h1
      match ns, e with
      | [n, pl], e =>
        cases e
        cases c with
        | inl o => cases h2
        | inr xs =>
          have h3 : (decide (1 ≤ xs.length ∧ xs.length ≤ 32) && xs.all (okN (-999) 999)) = true := h2
          simp only [Bool.and_eq_true, decide_eq_true_eq] at h3
          obtain ⟨ms, rfl, hm2⟩ := all_okN h3.2
          rw [List.length_map] at h3
          exact ⟨n, pl, ms, rfl, hn n (by simp), hn pl (by simp), h3.1, hm2⟩
  · rw [if_neg hw] at h
    exact .inl ⟨hw, all_okP h⟩
theorem w_free {d : DD} (h : (d.w, d.rs.length) ∈ partsT) : ∀ c ∈ tl d.w, 97 ≤ c := by
  obtain ⟨w, rs⟩ := d
  have hw : w ∈ partsT.map Prod.fst := List.mem_map.mpr ⟨_, h, rfl⟩
  clear h
  unfold partsT at hw
  simp only [List.map_cons, List.map_nil, List.mem_cons, List.not_mem_nil, or_false] at hw
  rcases hw with rfl | rfl | rfl | rfl | rfl | rfl | rfl <;> (show ∀ c ∈ tl (Str.ofString _), _; rw [tl_ofString]; decide)
theorem w_ne {d : DD} (h : (d.w, d.rs.length) ∈ partsT) : tl d.w ≠ [] ∧ d.w.length ≤ 6 ∧ d.rs.length ≤ 5 := by
  obtain ⟨w, rs⟩ := d
  have hw : w ∈ partsT.map Prod.fst := List.mem_map.mpr ⟨_, h, rfl⟩
  have hr : rs.length ∈ partsT.map Prod.snd := List.mem_map.mpr ⟨_, h, rfl⟩
  have h5 : rs.length ≤ 5 := by
    simp only [partsT, List.map_cons, List.map_nil, List.mem_cons, List.not_mem_nil, or_false] at hr
    omega
  clear h hr
  unfold partsT at hw
  simp only [List.map_cons, List.map_nil, List.mem_cons, List.not_mem_nil, or_false] at hw
  refine ⟨?_, ?_, h5⟩
  · rcases hw with rfl | rfl | rfl | rfl | rfl | rfl | rfl <;> (show tl (Str.ofString _) ≠ _; rw [tl_ofString]; decide)
  · rw [len_tl]
    rcases hw with rfl | rfl | rfl | rfl | rfl | rfl | rfl <;> (show (tl (Str.ofString _)).length ≤ 6; rw [tl_ofString]; decide)
/-- no blank and no line end in a part's text; few signs -/
theorem part_free {d : DD} (g : Good d) {r : RV} (hr : r ∈ d.rs) {c : Nat} (hc : c = 10 ∨ c = 32) : c ∉ tl (rvTxt r) ∧ (rvTxt r).length ≤ 160 := by
  have num : ∀ i : Int, -999 ≤ i → i ≤ 999 → c ∉ tl (numS i) ∧ (numS i).length ≤ 4 := fun i h0 h1 => ⟨by rw [tl_numS]; exact numT_free (by omega), by rw [len_tl, tl_numS]; exact numT_len h0 h1⟩
  rcases g.c with ⟨_, ns, e, hn⟩ | ⟨_, n, pl, xs, e, h1, h2, h3, h4⟩
  · rw [e] at hr
    obtain ⟨i, hi, rfl⟩ := List.mem_map.mp hr
    have := hn i hi
    have q := num i (by omega) (by omega)
    exact ⟨q.1, Nat.le_trans q.2 (by decide)⟩
  · rw [e] at hr
    simp only [List.mem_cons, List.not_mem_nil, or_false] at hr
    rcases hr with rfl | rfl | rfl
    · have q := num n (by omega) (by omega)
      exact ⟨q.1, Nat.le_trans q.2 (by decide)⟩
    · have q := num pl (by omega) (by omega)
      exact ⟨q.1, Nat.le_trans q.2 (by decide)⟩
    · have all : ∀ p ∈ (xs.map some).map (fun o => numS (o.getD 0)), c ∉ tl p ∧ p.length ≤ 4 := by
        intro p hp
        rw [List.map_map] at hp
        obtain ⟨i, hi, rfl⟩ := List.mem_map.mp hp
        exact num i (h4 i hi).1 (h4 i hi).2
      refine ⟨free_join (by rw [tl_com]; simp; omega) fun p hp => (all p hp).1, ?_⟩
      refine Nat.le_trans (len_join (k := 4) (by rw [tl_com]; decide) fun p hp => (all p hp).2) ?_
      rw [List.length_map, List.length_map]
      omega
theorem row_free {d : DD} (g : Good d) : (∀ p ∈ d.w :: d.rs.map rvTxt, 32 ∉ tl p ∧ p.length ≤ 160) ∧ 10 ∉ tl (rowTxt d) ∧ (rowTxt d).length ≤ 966 ∧ tl (rowTxt d) ≠ [] := by
  have hw := w_free g.mem
  have hn := w_ne g.mem
  have a1 : ∀ p ∈ d.w :: d.rs.map rvTxt, 32 ∉ tl p ∧ 10 ∉ tl p ∧ p.length ≤ 160 := by
    intro p hp
    rcases List.mem_cons.mp hp with rfl | hp
    · exact ⟨fun z => absurd (hw _ z) (by decide), fun z => absurd (hw _ z) (by decide), by omega⟩
    · obtain ⟨r, hr, rfl⟩ := List.mem_map.mp hp
      exact ⟨(part_free g hr (.inr rfl)).1, part_free g hr (.inl rfl)⟩
  refine ⟨fun p hp => ⟨(a1 p hp).1, (a1 p hp).2.2⟩, free_join (by rw [tl_sp]; decide) fun p hp => (a1 p hp).2.1, ?_, ?_⟩
  · refine Nat.le_trans (len_join (k := 160) (by rw [tl_sp]; decide) fun p hp => (a1 p hp).2.2) ?_
    rw [List.length_cons, List.length_map]
    have := hn.2.2
    show (d.rs.length + 1) * 161 ≤ 966
    omega
  · unfold rowTxt
    rw [join_eq, tl_join]
    cases hd : d.rs.map rvTxt with
    | nil => exact hn.1
    | cons q r => exact fun z => hn.1 (List.append_eq_nil_iff.mp z).1
theorem split_row {d : DD} (g : Good d) : Txt.split (rowTxt d) " " = d.w :: d.rs.map rvTxt := split_join (s := 32) (S := []) tl_sp (by decide +kernel) (by simp) fun p hp => ((row_free g).1 p hp).1
theorem split_nums {xs : List Int} (h : 1 ≤ xs.length) : Txt.split (Txt.join "," ((xs.map some).map fun o => numS (o.getD 0))) "," = xs.map numS := by
  rw [List.map_map]
  refine split_join (s := 44) (S := []) tl_com (by decide +kernel) (fun z => ?_) fun p hp => ?_
  · rw [List.map_eq_nil_iff] at z
    subst z
    simp at h
  · obtain ⟨i, _, rfl⟩ := List.mem_map.mp hp
    show 44 ∉ tl (numS i)
    rw [tl_numS]
    exact numT_free (.inl (by decide))
theorem rd_row {d : DD} (g : Good d) : rdRow (rowTxt d) = d := by
  unfold rdRow
  rw [split_row g]
  obtain ⟨w, rs⟩ := d
  show (⟨w, rdParts (w :: rs.map rvTxt)⟩ : DD) = _
  congr 1
  unfold rdParts
  show (if w = "parcel" ∧ (rs.map rvTxt).length = 3 then ((rs.map rvTxt).map fun w => (Sum.inl (numO w) : RV)).set 2 (.inr ((Txt.split ((w :: rs.map rvTxt).getD 3 Str.empty) ",").map numO)) else (rs.map rvTxt).map fun w => .inl (numO w)) = rs
  rcases g.c with ⟨hw, ns, e, hn⟩ | ⟨hw, n, pl, xs, e, h1, h2, h3, h4⟩
  · have hw' : ¬ w = "parcel" := hw
    have e' : rs = ns.map (fun i => (Sum.inl (some i) : RV)) := e
    subst e'
    rw [if_neg (fun z => hw' z.1), List.map_map, List.map_map]
    refine List.map_congr_left fun i hi => ?_
    have := hn i hi
    show (Sum.inl (numO (numS i)) : RV) = _
    rw [numO_num (by omega) (by omega)]
  · have hw' : w = "parcel" := hw
    have e' : rs = [.inl (some n), .inl (some pl), .inr (xs.map some)] := e
    subst e'
    rw [if_pos ⟨hw', rfl⟩]
    show [(Sum.inl (numO (numS n)) : RV), .inl (numO (numS pl)), .inr ((Txt.split (Txt.join "," ((xs.map some).map fun o => numS (o.getD 0))) ",").map numO)] = _
    rw [numO_num (by omega) (by omega), numO_num (by omega) (by omega), split_nums h3.1, List.map_map]
    rw [show xs.map (numO ∘ numS) = xs.map some from List.map_congr_left fun i hi => numO_num (h4 i hi).1 (h4 i hi).2]
/-! the text of many -/
def allTxt (ds : List DD) : Str := Txt.join "\n" (ds.map rowTxt)
def rowsOf (z : Str) : List Str := if z = Str.empty then [] else Txt.split z "\n"
theorem rows_all {ds : List DD} (h : ∀ d ∈ ds, Good d) : rowsOf (allTxt ds) = ds.map rowTxt := by
  unfold rowsOf
  cases ds with
  | nil => rfl
  | cons d r =>
    have hne : ¬ allTxt (d :: r) = Str.empty := by
      intro z
      have z2 : tl (allTxt (d :: r)) = [] := by rw [z]; rfl
      unfold allTxt at z2
      rw [join_eq, tl_join] at z2
      have hd := (row_free (h d (by simp))).2.2.2
      cases r with
      | nil => exact hd z2
      | cons => exact hd (List.append_eq_nil_iff.mp z2).1
    rw [if_neg hne]
    refine split_join (s := 10) (S := []) tl_nl (by decide +kernel) (by simp) fun p hp => ?_
    obtain ⟨q, hq, rfl⟩ := List.mem_map.mp hp
    exact (row_free (h q hq)).2.1
theorem len_all {ds : List DD} (h : ∀ d ∈ ds, Good d) (hl : ds.length ≤ 300) : (allTxt ds).length ≤ 290100 := by
  refine Nat.le_trans (len_join (k := 966) (by rw [tl_nl]; decide) fun p hp => ?_) (by rw [List.length_map]; omega)
  obtain ⟨q, hq, rfl⟩ := List.mem_map.mp hp
  exact (row_free (h q hq)).2.2.1
theorem fold_join (w : Str) : ∀ ps : List Str, ps.foldl (fun acc p => acc ++ Str.ofString " " ++ p) w = Txt.join " " (w :: ps) := by
  intro ps
  rw [join_eq]
  refine ext_tl ?_
  rw [tl_join, tl_sp]
  induction ps generalizing w with
  | nil => rfl
  | cons p r ih =>
    rw [List.foldl_cons, ih]
    cases r with
    | nil =>
      show tl (w ++ Str.ofString " " ++ p) = tl w ++ ([32] ++ tl p)
      rw [tl_append, tl_append, tl_sp, List.append_assoc]
    | cons q t =>
      show tl (w ++ Str.ofString " " ++ p) ++ ([32] ++ joinL [32] ((q :: t).map tl)) = tl w ++ ([32] ++ (tl p ++ ([32] ++ joinL [32] ((q :: t).map tl))))
      simp only [tl_append, tl_sp, List.append_assoc]
end Mx

namespace L2
open PySem PySem.Spec PyProof.Rows
/-! ### d.get(x), d a dict of the module, x there or not -/
def KMs (K : PySem.W.Frag) (w : World) (a : Addr) (z : Str) : Prop := ∃ es n, K.lookup a = some ⟨.type "dict", none, .dict es n, #[]⟩ ∧ PySem.W.KeysLit w.params es.toList ∧ PySem.W.nsIn K a z = some none
def tKGet2 (K : PySem.W.Frag) (w : World) (td ty : TE) : TE := fun σ H Q => td σ H fun x H1 => ∃ a, x = .ref a ∧ (∃ es n, K.lookup a = some ⟨.type "dict", none, .dict es n, #[]⟩ ∧ PySem.W.KeysLit w.params es.toList) ∧ (a == sysModules) = false ∧
  ty σ H1 fun y H2 => ∃ z v, y = .str z ∧ (KDct K w a z v ∨ KMs K w a z ∧ v = .non) ∧ Q v H2
section
variable {X : Cx} {o e : Expr} {apos cpos : Pos} {td ty : TE}
theorem pe_kget2 (ho : PE X o td) (he : PE X e ty) (m : M1 X o "get" apos e cpos) : PE X (.Call (.Attribute o "get" apos) [e] [] cpos) (tKGet2 X.K X.w td ty) := by
  refine ⟨fun pins s σ H Q I h => ?_⟩
  refine wpAny_Call_method m.base m.few m.line PySem.F.plainAttrs_dict PySem.F.slot_dict_get PySem.F.type_dict_get (thn (ho.run pins s σ H _ I h) fun u s1 ⟨x, H1, I1, rx, a, ex, ⟨es, n, hl, hk⟩, hs, q1⟩ => ?_)
  subst ex
  obtain rfl : u = Value.ref a := rx
  have hm1 := PySem.W.mapOf_K (prog := X.prog) (w := X.w) I1.kIn hl hk
  refine ⟨hm1.typeIs, fun b q => ?_, ?_⟩
  · cases q
    exact ⟨_, I1.kIn _ _ hl, rfl⟩
  rw [m.trees]
  refine Calls.callWith_builtin rfl (Calls.evalArgs_plain (Calls.spliced_cons (thn (he.run pins s1 σ H1 _ I1 q1) fun iv s2 ⟨y, H2, I2, ry, z, v, ey, q0, q2⟩ => Calls.spliced_nil ?_)))
  subst ey
  obtain ⟨t, rfl⟩ := ry
  rcases q0 with ⟨es', n', u0, hl', hk', e', ru⟩ | ⟨⟨es', n', hl', hk', e'⟩, rfl⟩
  · have hm := PySem.W.mapOf_K (prog := X.prog) (w := X.w) I2.kIn hl' hk'
    refine call_meetsIn PySem.F.slot_dict_get hm.typeIs PySem.F.entry_dict_get (PySem.F.args_dict_get_2 _ _) (meets_dict_get (strKind X.prog X.w) a (strKind_is X.prog X.w z t) hs) ⟨_, hm, ?_⟩
    rw [PySem.W.find_K hl' e']
    exact ⟨v, H2, I2.tok _, ru, q2⟩
  · have hm := PySem.W.mapOf_K (prog := X.prog) (w := X.w) I2.kIn hl' hk'
    refine call_meetsIn PySem.F.slot_dict_get hm.typeIs PySem.F.entry_dict_get (PySem.F.args_dict_get_2 _ _) (meets_dict_get (strKind X.prog X.w) a (strKind_is X.prog X.w z t) hs) ⟨_, hm, ?_⟩
    rw [PySem.W.find_K hl' e']
    exact ⟨.non, H2, I2.tok _, rfl, q2⟩
end
end L2
namespace Mx
open PySem L2 TL
/-! ### deeds, checked whatever they are -/
/-- what isn't a number in these bounds is none -/
def wB (lo hi : Int) : V → Bool
  | .int n => decide (lo ≤ n ∧ n ≤ hi)
  | _ => false
theorem wB_P {K : PySem.W.Frag} {H : Hp} {r : RV} {v : V} (h : RVat K H r v) : wB 0 999 v = okP r := by
  cases r with
  | inl o =>
    have h' : v = oV o := h
    subst h'
    cases o <;> rfl
  | inr xs =>
    obtain ⟨t, rfl, _⟩ := h
    rfl
theorem all_wB {K : PySem.W.Frag} {H : Hp} : ∀ {rs : List RV} {vs : List V}, Paired (RVat K H) rs vs → vs.all (wB 0 999) = rs.all okP
  | _, _, .nil => rfl
  | _, _, .cons h r => by rw [List.all_cons, List.all_cons, wB_P h, all_wB r]
theorem pr_take {α β : Type} {R : α → β → Prop} : ∀ {xs : List α} {ys : List β} (n : Nat), Paired R xs ys → Paired R (xs.take n) (ys.take n)
  | _, _, 0, _ => by rw [List.take_zero, List.take_zero]; exact .nil
  | _, _, n + 1, .nil => .nil
  | _, _, n + 1, .cons h r => .cons h (pr_take n r)
structure PartsOk2 (K : PySem.W.Frag) (w : World) (mg : Str → Option Value) (aP : Addr) : Prop where
  mg : mg "PARTS" = some (.ref aP)
  at_ : ∃ es n, K.lookup aP = some ⟨.type "dict", none, .dict es n, #[]⟩ ∧ PySem.W.KeysLit w.params es.toList
  sys : (aP == sysModules) = false
  all : ∀ p ∈ partsT, KDct K w aP p.1 (.int p.2)
  no : ∀ z, z ∉ partsT.map Prod.fst → KMs K w aP z
def pV (z : Str) : V := if z ∈ partsT.map Prod.fst then .int (((partsT.lookup z).getD 0 : Nat)) else .non
theorem PartsOk2.get {K : PySem.W.Frag} {w : World} {mg : Str → Option Value} {aP : Addr} (h : PartsOk2 K w mg aP) (z : Str) : KDct K w aP z (pV z) ∨ KMs K w aP z ∧ pV z = .non := by
  by_cases hz : z ∈ partsT.map Prod.fst
  · left
    unfold pV
    rw [if_pos hz]
    obtain ⟨p, hp, rfl⟩ := List.mem_map.mp hz
    have := h.all p hp
    have e : (partsT.lookup p.1).getD 0 = p.2 := by
      clear this hz
      unfold partsT at hp
      simp only [List.mem_cons, List.not_mem_nil, or_false] at hp
      rcases hp with rfl | rfl | rfl | rfl | rfl | rfl | rfl <;> decide +kernel
    rw [e]
    exact this
  · refine .inr ⟨h.no z hz, ?_⟩
    unfold pV
    rw [if_neg hz]
theorem pV_iff (z : Str) (n : Nat) : pV z = .int (n : Int) ↔ (z, n) ∈ partsT := by
  unfold pV
  by_cases hz : z ∈ partsT.map Prod.fst
  · rw [if_pos hz]
    obtain ⟨p, hp, rfl⟩ := List.mem_map.mp hz
    clear hz
    unfold partsT at hp
    simp only [List.mem_cons, List.not_mem_nil, or_false] at hp
    have key : ∀ (a : Str) (m : Nat), partsT.lookup a = some m → ((a, n) ∈ partsT ↔ m = n) → (V.int (((partsT.lookup a).getD 0 : Nat) : Int) = .int (n : Int) ↔ (a, n) ∈ partsT) := fun a m h1 h2 => by
      rw [h1, h2]
      show V.int ((m : Nat) : Int) = .int (n : Int) ↔ m = n
      constructor
      · intro z
        cases z
        rfl
      · rintro rfl
        rfl
    rcases hp with rfl | rfl | rfl | rfl | rfl | rfl | rfl
    · exact key "add" 5 (by decide +kernel) (by unfold partsT; simp [ofString_inj, eq_comm])
    · exact key "parcel" 3 (by decide +kernel) (by unfold partsT; simp [ofString_inj, eq_comm])
    · exact key "end" 2 (by decide +kernel) (by unfold partsT; simp [ofString_inj, eq_comm])
    · exact key "lead" 3 (by decide +kernel) (by unfold partsT; simp [ofString_inj, eq_comm])
    · exact key "hush" 1 (by decide +kernel) (by unfold partsT; simp [ofString_inj, eq_comm])
    · exact key "wake" 1 (by decide +kernel) (by unfold partsT; simp [ofString_inj, eq_comm])
    · exact key "beat" 0 (by decide +kernel) (by unfold partsT; simp [ofString_inj, eq_comm])
  · rw [if_neg hz]
    constructor
    · intro h; cases h
    · intro h; exact absurd (List.mem_map.mpr ⟨_, h, rfl⟩) hz
theorem lc_tupB {K : PySem.W.Frag} {a : Addr} {xs : List V} {i : Nat} {te : TE} {σ : L2.St} {H0 H9 : Hp} {Q : VK} (f : V → V) (hx : TupAt K H0 a xs) (hl : xs.length ≤ 100000)
    (he : ∀ x ∈ xs, ∀ (H : Hp) (Q' : VK), Stp [] H0 H → Q' (f x) H → te ((wipe σ [i]).set i (some x)) H Q')
    (k : ∀ D H', H0 D = none → Stp [] H0 H' → H' D = some (.lst (xs.map f)) → Q (.ref D) H') :
    tLc (fun _ _ R => R (Itt K a) H0) (gName i) tYes te [i] σ H9 Q := by
  intro D hD
  refine lc_tup (K := K) (a := a) (xs := xs) (fun j H => Stp [] H0 H ∧ H D = some (.lst ((xs.take j).map f))) ⟨Stp.new hD, upd_same⟩ (fun j H _ h => (hx.st h.1).sq) (fun j x H hj h => ?_) (fun H h => ?_)
  · refine ⟨wipe1, ?_⟩
    simp only [tYes, reduceIte]
    have hm : x ∈ xs := List.mem_of_getElem? hj
    refine he x hm H _ h.1 ⟨(xs.take j).map f, h.2, ?_, ?_, ?_⟩
    · rw [List.length_map, List.length_take]
      exact Nat.lt_of_le_of_lt (Nat.min_le_right _ _) (Nat.lt_of_le_of_lt hl (by decide))
    · exact stp_acc h.1 hD (by rw [h.2]; intro ys z; cases z)
    · rw [upd_same, List.take_add_one, hj]
      simp
  · have h2 := h.2
    rw [List.take_length] at h2
    exact k D H hD h.1 h2
set_option hygiene false in
local macro_rules | `(tactic| walk_at "rd") => `(tactic| try simp only [L2.start, List.map_cons, List.map_nil, List.length_cons, List.length_nil, Nat.reduceAdd, Nat.reduceSub, Nat.reduceLT, Nat.reduceLeDiff, List.replicate_succ, List.replicate_zero, List.append_nil, List.nil_append, List.cons_append, List.set_cons_zero, List.set_cons_succ, List.getElem?_cons_zero, List.getElem?_cons_succ,
  Option.some.injEq, List.cons.injEq, and_true, true_and, and_assoc, reduceCtorEq, L2.V.int.injEq, L2.V.ref.injEq, L2.V.bl.injEq, L2.V.str.injEq, L2.V.ty.injEq, L2.HO.ins.injEq, L2.HO.lst.injEq, L2.HO.tup.injEq, L2.HO.dK.injEq, exists_eq_left', exists_eq_left, exists_eq_right, exists_eq', exists_eq, exists_and_left, exists_and_right, reduceIte, Bool.false_eq_true, Bool.not_true, Bool.not_false,
  L2.tSeq, L2.tIfS, L2.tRet, L2.tRetN, L2.tNext, L2.tAsg, L2.gName, L2.tVar, L2.tC, L2.tCons, L2.tNil, L2.tCB, L2.tOp, L2.tUn, L2.tTup, L2.tLst, L2.tB, L2.tOr, L2.tAnd, L2.tNot, L2.tAndV, L2.tOrV, L2.tNotV, L2.tIf, L2.tTest, L2.tChain, L2.rI, L2.rI0, L2.rU, L2.tDrop, L2.tNever, L2.tCall, L2.tMeth, L2.tMake, L2.rGcd, L2.tFld, L2.sFld, L2.sFldAug, Mx.sFldA, Mx.sFldAugA, L2.rAdd, L2.rSub, L2.rEq, L2.rNe, L2.tDGet, L2.tDIn, L2.tDNotIn, L2.sDPut,
  Mx.isi_int_bool, Mx.isi_int_int, Mx.isi_int_tuple, Mx.isi_int_list, Mx.isi_int_str, Mx.scal_int, Mx.scal_str, Mx.scal_bl, Mx.ofString_inj, Mx.ofString_beq, Mx.lk_cons, Mx.pf_nil, Mx.pf_cons, Mx.sz1, Mx.sz2, List.lookup_nil, String.reduceEq, decide_true, decide_false, decide_eq_true_eq, Int.natAbs_natCast, L2.upd_same, L2.upd_upd, L2.cxOf, L2.gSub, L2.tPar, L2.gCons, L2.gNil, L2.tSl, L2.tPart, L2.rSlL, L2.gStar1, L2.tKGet2, L2.tNoPart])
set_option hygiene false in
local macro_rules | `(tactic| walk_at "rds") => `(tactic| try simp only [L2.start, List.map_cons, List.map_nil, List.length_cons, List.length_nil, Nat.reduceAdd, Nat.reduceSub, Nat.reduceLT, Nat.reduceLeDiff, List.replicate_succ, List.replicate_zero, List.append_nil, List.nil_append, List.cons_append, List.set_cons_zero, List.set_cons_succ, List.getElem?_cons_zero, List.getElem?_cons_succ,
  Option.some.injEq, List.cons.injEq, and_true, true_and, and_assoc, reduceCtorEq, L2.V.int.injEq, L2.V.ref.injEq, L2.V.bl.injEq, L2.V.str.injEq, L2.V.ty.injEq, L2.HO.ins.injEq, L2.HO.lst.injEq, L2.HO.tup.injEq, L2.HO.dK.injEq, exists_eq_left', exists_eq_left, exists_eq_right, exists_eq', exists_eq, exists_and_left, exists_and_right, reduceIte, Bool.false_eq_true, Bool.not_true, Bool.not_false,
  L2.tSeq, L2.tIfS, L2.tRet, L2.tRetN, L2.tNext, L2.tAsg, L2.gName, L2.tVar, L2.tC, L2.tCons, L2.tNil, L2.tCB, L2.tOp, L2.tUn, L2.tTup, L2.tLst, L2.tB, L2.tOr, L2.tAnd, L2.tNot, L2.tAndV, L2.tOrV, L2.tNotV, L2.tIf, L2.tTest, L2.tChain, L2.rI, L2.rI0, L2.rU, L2.tDrop, L2.tNever, L2.tCall, L2.tMeth, L2.tMake, L2.rGcd, L2.tFld, L2.sFld, L2.sFldAug, Mx.sFldA, Mx.sFldAugA, L2.rAdd, L2.rSub, L2.rEq, L2.rNe, L2.tDGet, L2.tDIn, L2.tDNotIn, L2.sDPut,
  Mx.isi_int_bool, Mx.isi_int_int, Mx.isi_int_tuple, Mx.isi_int_list, Mx.isi_int_str, Mx.scal_int, Mx.scal_str, Mx.scal_bl, Mx.ofString_inj, Mx.ofString_beq, Mx.lk_cons, Mx.pf_nil, Mx.pf_cons, Mx.sz1, Mx.sz2, List.lookup_nil, String.reduceEq, decide_true, decide_false, decide_eq_true_eq, Int.natAbs_natCast, L2.upd_same, L2.upd_upd, L2.cxOf, L2.gSub, L2.tPar, L2.gCons, L2.gNil, L2.tSl, L2.tPart, L2.rSlL, L2.gStar1, L2.tKGet2, L2.tNoPart, *])

section
variable {P : Program} {w : World} {K : PySem.W.Frag} {mg : Str → Option Value} {base : Heap}
def Kn (K : PySem.W.Frag) (H : Hp) (v : V) : Prop := ∃ r, RVat K H r v
theorem Kn.int {H : Hp} (i : Int) : Kn K H (.int i) := ⟨.inl (some i), rfl⟩
theorem Kn.st {F : List Addr} {H H' : Hp} {v : V} (h : Kn K H v) (s : Stp F H H') : Kn K H' v := by
  obtain ⟨r, h⟩ := h
  exact ⟨r, h.st s⟩
def sp_is_wholeR (K : PySem.W.Frag) : Sp := fun vs H Q _ => ∃ (v : V) (lo hi : Int), vs = [v, .int lo, .int hi] ∧ Kn K H v ∧ Q (.bl (wB lo hi v)) H
theorem ok_is_wholeR {f : Addr} {fd : FuncData} (F : Fun K "is_whole" "is_whole" s_is_whole f fd) (B : Blt mg) : FnOk P w K mg base CX0 1 f fd ["number", "low", "high"] (sp_is_wholeR K) := by
  refine F.ok sc_is_whole (fun vs H Q E h => ?_) (fun cdv A outer s H vs Q E hr h => ?_)
  · obtain ⟨n, lo, hi, rfl, _⟩ := h
    rfl
  · obtain ⟨v, lo, hi, rfl, ⟨r, hv⟩, k⟩ := h
    refine ⟨_, pss_cons (ps_if (PW.pt (pw_or (pt_val (b_isi B (pv 0) B.bool PyProof.Rows.boot_bool)) (pw_or1 (pt_not (pt_val (b_isi B (pv 0) B.int PyProof.Rows.boot_int))))))
        (pss_one (ps_ret pe_bl)) pss_nil)
      (pss_one (ps_ret (pe_chain op_le op_le (pv 1) (pv 0) (pv 2)))), ?_⟩
    cases r with
    | inl o =>
      have hv' : v = oV o := hv
      subst hv'
      cases o with
      | none =>
        show _
        walk_at "rd"
        refine isi_nonA (b := false) (by decide +kernel) ?_
        walk_at "rd"
        refine isi_nonA (b := false) (by decide +kernel) ?_
        walk_at "rd"
        exact k
      | some n =>
        show _
        have k' : Q (.bl (decide (lo ≤ n ∧ n ≤ hi))) H := k
        change L2.tSeq _ _ _ _ _
        simp only [oV]
        walk_at "rd"
        by_cases h1 : lo ≤ n
        · rw [if_pos h1]
          rw [show (decide (n ≤ hi)) = decide (lo ≤ n ∧ n ≤ hi) from by simp [h1]]
          exact k'
        · rw [if_neg (by simpa using h1)]
          rw [show (false) = decide (lo ≤ n ∧ n ≤ hi) from by simp [h1]]
          exact k'
    | inr xs =>
      obtain ⟨t, rfl, ht⟩ := hv
      walk_at "rd"
      refine isi_tupA ht (b := false) (by decide +kernel) ?_
      walk_at "rd"
      refine isi_tupA ht (b := false) (by decide +kernel) ?_
      walk_at "rd"
      exact k
def sp_are_plainR (K : PySem.W.Frag) : Sp := fun vs H Q _ => ∃ (a : Addr) (xs : List V), vs = [.ref a] ∧ H a = some (.lst xs) ∧ xs.length ≤ 100000 ∧ (∀ x ∈ xs, Kn K H x) ∧ ∀ H', Stp [] H H' → Q (.bl (xs.all (wB 0 999))) H'
theorem sc_are_plain : FnScope ["parts", "part"] ["parts"] (defScope s_are_plain) := ⟨rfl, rfl, rfl, by decide +kernel, rfl, by decide +kernel, by decide +kernel⟩
theorem ok_are_plainR {f : Addr} {fd : FuncData} (F : Fun K "are_plain" "are_plain" s_are_plain f fd) (B : Blt mg) (G : OwnF P w K mg base "is_whole" 1 ["number", "low", "high"] (sp_is_wholeR K)) : FnOk P w K mg base CX0 2 f fd ["parts"] (sp_are_plainR K) := by
  refine F.ok sc_are_plain (fun vs H Q E h => ?_) (fun cdv A outer s H vs Q E hr h => ?_)
  · obtain ⟨a, xs, rfl, _⟩ := h
    rfl
  · obtain ⟨a, xs, rfl, ha, hl, hx, k⟩ := h
    have nd := sc_are_plain.nd
    refine ⟨_, pss_one (ps_ret (pe_callB (cr_all rfl) (by rfl) B.all PyProof.Rows.boot_all (pa_cons (pe_lc (own := [("part", 1)]) (te := tCall (sp_is_wholeR K) [] E0 (tCons (tVar 1) (tCons (tC (.int 0)) (tCons (tC (.int 999)) tNil)))) rfl nd (pi_list (pv 0)) (blkOk_by (N := ["parts", "part"]) (sc := defScope s_are_plain) (by decide +kernel))
      (fun _ _ _ _ _ => pg_name (i := 1) nd rfl (.inl rfl)) (fun _ _ _ _ _ => pts_nil) (fun _ _ _ _ _ => p_call G hr (pa_cons (pv 1) (pa_cons pe_int (pa_cons pe_int pa_nil))))) pa_nil))), ?_⟩
    walk_at "rd"
    refine ⟨_, rfl, a, rfl, ⟨_, .inl (.inl ha)⟩, lc_pure (K := K) (a := a) (H9 := H) (i := 1) (te := tCall (sp_is_wholeR K) [] E0 (tCons (tVar 1) (tCons (tC (.int 0)) (tCons (tC (.int 999)) tNil)))) (σ := [some (.ref a), none]) (Q := fun x H1 => rAll K [x] H1 _) (fun v => .bl (wB 0 999 v)) (.inl (.inl ha)) hl (fun x hxm H1 Q' hs q => ?_) (fun D H1 hD hs1 hl1 => ?_)⟩
    · exact ⟨_, rfl, x, 0, 999, rfl, (hx x hxm).st hs, q⟩
    · refine ⟨D, xs.map (wB 0 999), rfl, .inl (.inl (by rw [hl1, List.map_map]; rfl)), ?_⟩
      rw [show (xs.map (wB 0 999)).all id = xs.all (wB 0 999) from by rw [List.all_map]; rfl]
      exact k H1 hs1
/-- numbers in a tuple -/
def pB (xs : List V) : Bool := decide (1 ≤ xs.length ∧ xs.length ≤ 32) && xs.all (wB (-999) 999)
def sp_is_parcelR (K : PySem.W.Frag) : Sp := fun vs H Q _ => ∃ (v : V) (r : RV), vs = [v] ∧ RVat K H r v ∧ (∀ xs, r = .inr xs → xs.length ≤ 100000) ∧ ∀ H', Stp [] H H' → Q (.bl (okT r)) H'
theorem sc_is_parcel : FnScope ["numbers", "number"] ["numbers"] (defScope s_is_parcel) := ⟨rfl, rfl, rfl, by decide +kernel, rfl, by decide +kernel, by decide +kernel⟩
theorem ok_is_parcelR {f : Addr} {fd : FuncData} (F : Fun K "is_parcel" "is_parcel" s_is_parcel f fd) (B : Blt mg) (G : OwnF P w K mg base "is_whole" 1 ["number", "low", "high"] (sp_is_wholeR K)) : FnOk P w K mg base CX0 2 f fd ["numbers"] (sp_is_parcelR K) := by
  refine F.ok sc_is_parcel (fun vs H Q E h => ?_) (fun cdv A outer s H vs Q E hr h => ?_)
  · obtain ⟨v, r, rfl, _⟩ := h
    rfl
  · obtain ⟨v, r, rfl, ha, hxl, k⟩ := h
    have nd := sc_is_parcel.nd
    refine ⟨_, pss_cons (ps_if (PW.pt (pw_or (pt_not (pt_val (b_isi B (pv 0) B.tuple PyProof.Rows.boot_tuple))) (pw_or1 (pt_not (pt_val (p_call G hr (pa_cons (pe_callB call_len_seq (by rfl) B.len PySem.boot_len (pa_cons (pv 0) pa_nil)) (pa_cons pe_int (pa_cons pe_int pa_nil))))))))) (pss_one (ps_ret pe_bl)) pss_nil)
      (pss_one (ps_ret (pe_callB (cr_all rfl) (by rfl) B.all PyProof.Rows.boot_all (pa_cons (pe_lc (own := [("number", 1)]) (te := tCall (sp_is_wholeR K) [] E0 (tCons (tVar 1) (tCons (tUn (rU fun i => .int (-i)) (tC (.int 999))) (tCons (tC (.int 999)) tNil)))) rfl nd (pi_tup (pv 0)) (blkOk_by (N := ["numbers", "number"]) (sc := defScope s_is_parcel) (by decide +kernel))
      (fun _ _ _ _ _ => pg_name (i := 1) nd rfl (.inl rfl)) (fun _ _ _ _ _ => pts_nil) (fun _ _ _ _ _ => p_call G hr (pa_cons (pv 1) (pa_cons (pe_un un_neg pe_int) (pa_cons pe_int pa_nil))))) pa_nil)))), ?_⟩
    cases r with
    | inl o =>
      have ha' : v = oV o := ha
      subst ha'
      cases o with
      | none =>
        walk_at "rd"
        refine isi_nonA (b := false) (by decide +kernel) ?_
        walk_at "rd"
        exact k H Stp.refl
      | some n =>
        simp only [oV]
        walk_at "rd"
        exact k H Stp.refl
    | inr xs =>
      obtain ⟨a, rfl, ht⟩ := ha
      have hl := hxl xs rfl
      walk_at "rd"
      refine isi_tupA (b := true) ht (by decide +kernel) ?_
      walk_at "rd"
      refine ⟨_, .inr ht.sq, ?_⟩
      walk_at "rd"
      refine ⟨_, 1, 32, rfl, Kn.int _, ?_⟩
      have el : (xs.map oV).length = xs.length := List.length_map _
      by_cases hw : 1 ≤ xs.length ∧ xs.length ≤ 32
      · rw [show wB 1 32 (.int (((xs.map oV).length : Nat) : Int)) = true from by rw [el]; exact decide_eq_true (by omega)]
        walk_at "rd"
        refine ⟨_, rfl, a, rfl, ⟨_, ht.sq⟩, lc_tupB (K := K) (a := a) (H9 := H) (i := 1) (te := tCall (sp_is_wholeR K) [] E0 (tCons (tVar 1) (tCons (tUn (rU fun i => .int (-i)) (tC (.int 999))) (tCons (tC (.int 999)) tNil)))) (σ := [some (.ref a), none]) (Q := fun x H1 => rAll K [x] H1 _) (fun v => .bl (wB (-999) 999 v)) ht (by rw [List.length_map]; omega) (fun x hxm H1 Q' hs q => ?_) (fun D H1 hD hs1 hl1 => ?_)⟩
        · obtain ⟨n, hn, rfl⟩ := List.mem_map.mp hxm
          exact ⟨_, rfl, _, rfl, _, -999, 999, rfl, ⟨.inl n, rfl⟩, q⟩
        · refine ⟨D, (xs.map oV).map (wB (-999) 999), rfl, .inl (.inl (by rw [hl1, List.map_map, List.map_map, List.map_map]; rfl)), ?_⟩
          have e : ((xs.map oV).map (wB (-999) 999)).all id = okT (.inr xs) := by
            show _ = (decide (1 ≤ xs.length ∧ xs.length ≤ 32) && xs.all (okN (-999) 999))
            rw [decide_eq_true hw, Bool.true_and, List.all_map, List.all_map]
            congr 1
            funext o
            cases o <;> rfl
          rw [e]
          exact k H1 hs1
      · rw [show wB 1 32 (.int (((xs.map oV).length : Nat) : Int)) = false from by rw [el]; exact decide_eq_false (by omega)]
        walk_at "rd"
        have e : okT (.inr xs) = false := by
          show (decide (1 ≤ xs.length ∧ xs.length ≤ 32) && xs.all (okN (-999) 999)) = false
          rw [decide_eq_false hw, Bool.false_and]
        rw [← e]
        exact k H Stp.refl
end
end Mx

namespace Mx
open PySem L2 TL
/-! ### comprehensions of known values -/
theorem pr_range {R : Nat → V → Prop} {n : Nat} {zs : List V} (h : Paired R (List.range n) zs) (ys : List V) (hl : ys.length = n) (hR : ∀ j y, R j y → ys[j]? = some y) : zs = ys := by
  have e := h.length
  rw [List.length_range] at e
  refine List.ext_getElem? fun j => ?_
  by_cases hj : j < n
  · obtain ⟨x, y, hx, hy, q⟩ := pr_get h j (by rw [List.length_range]; exact hj) (by omega)
    rw [List.getElem?_range hj] at hx
    cases hx
    rw [hy, hR _ _ q]
  · rw [List.getElem?_eq_none (by omega), List.getElem?_eq_none (by omega)]
theorem lc_by {J : It} {n : Nat} {G : Hp → Prop} {Y : Nat → Hp → V → Hp → Prop} (w : Walk J n G Y) {H1 H9 : Hp} {i : Nat} {te : TE} {σ : L2.St} {Q : VK} (YX : Nat → V → Prop) (ys : List V) (hl : ys.length = n) (hn : n ≤ 100000)
    (hG : ∀ H, Stp [] H1 H → G H) (hY : ∀ j H x H', j < n → Y j H x H' → H' = H ∧ YX j x)
    (he : ∀ (j : Nat) (x y : V) (H : Hp), YX j x → ys[j]? = some y → Stp [] H1 H → ∀ Q' : VK, (∀ H', Stp [] H H' → Q' y H') → te ((wipe σ [i]).set i (some x)) H Q')
    (k : ∀ D H', H1 D = none → Stp [] H1 H' → H' D = some (.lst ys) → Q (.ref D) H') : tLc (fun _ _ R => R J H1) (gName i) tYes te [i] σ H9 Q := by
  refine lc_rel (H9 := H9) w (F := []) (Z := fun _ => True) (R := fun _ j y => ys[j]? = some y) (p := fun _ => true) (YX := YX) trivial (by simp) (fun _ _ _ _ _ _ _ => trivial) (fun H _ s => hG H s) (fun _ _ _ _ _ h _ => h) hn hY (fun j x H _ _ _ _ Q' q => q H trivial (by assumption) Stp.refl) (fun j x H hj hx _ _ s Q' q => ?_) fun D H' zs hD _ s h hp => ?_
  · obtain ⟨y, hy⟩ : ∃ y, ys[j]? = some y := ⟨_, List.getElem?_eq_getElem (by omega)⟩
    exact he j x y H hx hy s Q' fun H' s' => q y H' hy trivial (s.trans s') s'
  · rw [List.filter_eq_self.mpr (fun _ _ => rfl)] at hp
    rw [pr_range hp ys hl fun _ _ h => h] at h
    exact k D H' hD s h
section
variable {K : PySem.W.Frag} {a : Addr} {xs ys : List V} {i : Nat} {te : TE} {σ : L2.St} {H1 H9 : Hp} {Q : VK}
theorem lc_lstY (ha : H1 a = some (.lst xs)) (hl : ys.length = xs.length) (hn : xs.length ≤ 100000)
    (he : ∀ (j : Nat) (x y : V) (H : Hp), xs[j]? = some x → ys[j]? = some y → Stp [] H1 H → ∀ Q' : VK, (∀ H', Stp [] H H' → Q' y H') → te ((wipe σ [i]).set i (some x)) H Q')
    (k : ∀ D H', H1 D = none → Stp [] H1 H' → H' D = some (.lst ys) → Q (.ref D) H') : tLc (fun _ _ R => R (Itl K a) H1) (gName i) tYes te [i] σ H9 Q :=
  lc_by walk_list (fun j x => xs[j]? = some x) ys hl hn (fun H s => .inl (.inl (s.same _ _ ha))) (fun _ _ _ _ _ h => h) he k
theorem lc_tupY (ha : TupAt K H1 a xs) (hl : ys.length = xs.length) (hn : xs.length ≤ 100000)
    (he : ∀ (j : Nat) (x y : V) (H : Hp), xs[j]? = some x → ys[j]? = some y → Stp [] H1 H → ∀ Q' : VK, (∀ H', Stp [] H H' → Q' y H') → te ((wipe σ [i]).set i (some x)) H Q')
    (k : ∀ D H', H1 D = none → Stp [] H1 H' → H' D = some (.lst ys) → Q (.ref D) H') : tLc (fun _ _ R => R (Itt K a) H1) (gName i) tYes te [i] σ H9 Q :=
  lc_by walk_tup (fun j x => xs[j]? = some x) ys hl hn (fun H s => (ha.st s).sq) (fun _ _ _ _ _ h => h) he k
theorem lc_strY {z : Str} (hl : ys.length = (tl z).length) (hn : (tl z).length ≤ 100000)
    (he : ∀ (j : Nat) (c : Nat) (y : V) (H : Hp), (tl z)[j]? = some c → ys[j]? = some y → Stp [] H1 H → ∀ Q' : VK, (∀ H', Stp [] H H' → Q' y H') → te ((wipe σ [i]).set i (some (.str ⟨#[c]⟩))) H Q')
    (k : ∀ D H', H1 D = none → Stp [] H1 H' → H' D = some (.lst ys) → Q (.ref D) H') : tLc (fun _ _ R => R (Its z) H1) (gName i) tYes te [i] σ H9 Q :=
  lc_by walk_str (fun j x => ∃ c, (tl z)[j]? = some c ∧ x = .str ⟨#[c]⟩) ys (by rw [hl]; rw [← len_tl]; rfl) (by have := hn; rw [← len_tl] at this; exact this) (fun H s => trivial) (fun j H x H' _ h => ⟨h.1, by
    obtain ⟨_, c, h1, h2⟩ := h
    exact ⟨c, by show z.cps.toList[j]? = some c; rw [Array.getElem?_toList]; exact h1, h2⟩⟩) (fun j x y H hx hy s Q' q => by
    obtain ⟨c, hc, rfl⟩ := hx
    exact he j c y H hc hy s Q' q) k
theorem lc_tupYv {j0 : Nat} (hj : σ[j0]? = some (some (.ref a))) (ha : TupAt K H1 a xs) (hl : ys.length = xs.length) (hn : xs.length ≤ 100000)
    (he : ∀ (j : Nat) (x y : V) (H : Hp), xs[j]? = some x → ys[j]? = some y → Stp [] H1 H → ∀ Q' : VK, (∀ H', Stp [] H H' → Q' y H') → te ((wipe σ [i]).set i (some x)) H Q')
    (k : ∀ D H', H1 D = none → Stp [] H1 H' → H' D = some (.lst ys) → Q (.ref D) H') : tLc (iTup K (tVar j0)) (gName i) tYes te [i] σ H1 Q := ⟨_, hj, a, rfl, ⟨_, ha.sq⟩, lc_tupY (H9 := H1) (Q := Q) ha hl hn he k⟩
theorem lc_lstYv {j0 : Nat} (hj : σ[j0]? = some (some (.ref a))) (ha : H1 a = some (.lst xs)) (hl : ys.length = xs.length) (hn : xs.length ≤ 100000)
    (he : ∀ (j : Nat) (x y : V) (H : Hp), xs[j]? = some x → ys[j]? = some y → Stp [] H1 H → ∀ Q' : VK, (∀ H', Stp [] H H' → Q' y H') → te ((wipe σ [i]).set i (some x)) H Q')
    (k : ∀ D H', H1 D = none → Stp [] H1 H' → H' D = some (.lst ys) → Q (.ref D) H') : tLc (iList K (tVar j0)) (gName i) tYes te [i] σ H1 Q := ⟨_, hj, a, rfl, ⟨_, .inl (.inl ha)⟩, lc_lstY (H9 := H1) (Q := Q) ha hl hn he k⟩
theorem lc_lstYm {tl : TE} {H0 : Hp} (htl : ∀ R : VK, (∀ p H', H' p = some (.lst xs) → Stp [] H0 H' → R (.ref p) H') → tl σ H0 R) (hl : ys.length = xs.length) (hn : xs.length ≤ 100000)
    (he : ∀ (j : Nat) (x y : V) (H : Hp), xs[j]? = some x → ys[j]? = some y → Stp [] H0 H → ∀ Q' : VK, (∀ H', Stp [] H H' → Q' y H') → te ((wipe σ [i]).set i (some x)) H Q')
    (k : ∀ D H', H0 D = none → Stp [] H0 H' → H' D = some (.lst ys) → Q (.ref D) H') : tLc (iList K tl) (gName i) tYes te [i] σ H0 Q := htl _ fun p H' hp s0 =>
  ⟨p, rfl, ⟨_, .inl (.inl hp)⟩, lc_lstY (H9 := H0) (Q := Q) hp hl hn (fun j x y H h1 h2 s => he j x y H h1 h2 ((s0.trans s).sub (by simp))) fun D H2 hD s hd => k D H2 (s0.free hD (by simp)) ((s0.trans s).sub (by simp)) hd⟩
theorem lc_strYv {j0 : Nat} {z : Str} (hj : σ[j0]? = some (some (.str z))) (hl : ys.length = (tl z).length) (hn : (tl z).length ≤ 100000)
    (he : ∀ (j : Nat) (c : Nat) (y : V) (H : Hp), (tl z)[j]? = some c → ys[j]? = some y → Stp [] H1 H → ∀ Q' : VK, (∀ H', Stp [] H H' → Q' y H') → te ((wipe σ [i]).set i (some (.str ⟨#[c]⟩))) H Q')
    (k : ∀ D H', H1 D = none → Stp [] H1 H' → H' D = some (.lst ys) → Q (.ref D) H') : tLc (iStr (tVar j0)) (gName i) tYes te [i] σ H1 Q := ⟨_, hj, z, rfl, lc_strY (H9 := H1) (Q := Q) hl hn he k⟩
end
set_option hygiene false in
local macro_rules | `(tactic| walk_at "rd") => `(tactic| try simp only [L2.start, List.map_cons, List.map_nil, List.length_cons, List.length_nil, Nat.reduceAdd, Nat.reduceSub, Nat.reduceLT, Nat.reduceLeDiff, List.replicate_succ, List.replicate_zero, List.append_nil, List.nil_append, List.cons_append, List.set_cons_zero, List.set_cons_succ, List.getElem?_cons_zero, List.getElem?_cons_succ,
  Option.some.injEq, List.cons.injEq, and_true, true_and, and_assoc, reduceCtorEq, L2.V.int.injEq, L2.V.ref.injEq, L2.V.bl.injEq, L2.V.str.injEq, L2.V.ty.injEq, L2.HO.ins.injEq, L2.HO.lst.injEq, L2.HO.tup.injEq, L2.HO.dK.injEq, exists_eq_left', exists_eq_left, exists_eq_right, exists_eq', exists_eq, exists_and_left, exists_and_right, reduceIte, Bool.false_eq_true, Bool.not_true, Bool.not_false,
  L2.tSeq, L2.tIfS, L2.tRet, L2.tRetN, L2.tNext, L2.tAsg, L2.gName, L2.tVar, L2.tC, L2.tCons, L2.tNil, L2.tCB, L2.tOp, L2.tUn, L2.tTup, L2.tLst, L2.tB, L2.tOr, L2.tAnd, L2.tNot, L2.tAndV, L2.tOrV, L2.tNotV, L2.tIf, L2.tTest, L2.tChain, L2.rI, L2.rI0, L2.rU, L2.tDrop, L2.tNever, L2.tCall, L2.tMeth, L2.tMake, L2.rGcd, L2.tFld, L2.sFld, L2.sFldAug, Mx.sFldA, Mx.sFldAugA, L2.rAdd, L2.rSub, L2.rEq, L2.rNe, L2.tDGet, L2.tDIn, L2.tDNotIn, L2.sDPut,
  Mx.isi_int_bool, Mx.isi_int_int, Mx.isi_int_tuple, Mx.isi_int_list, Mx.isi_int_str, Mx.scal_int, Mx.scal_str, Mx.scal_bl, Mx.ofString_inj, Mx.ofString_beq, Mx.lk_cons, Mx.pf_nil, Mx.pf_cons, Mx.sz1, Mx.sz2, List.lookup_nil, String.reduceEq, decide_true, decide_false, decide_eq_true_eq, Int.natAbs_natCast, L2.upd_same, L2.upd_upd, L2.cxOf, L2.gSub, L2.tPar, L2.gCons, L2.gNil, L2.tSl, L2.tPart, L2.rSlL, L2.gStar1, L2.tKGet2, L2.tNoPart, L2.tM1])
set_option hygiene false in
local macro_rules | `(tactic| walk_at "rds") => `(tactic| try simp only [L2.start, List.map_cons, List.map_nil, List.length_cons, List.length_nil, Nat.reduceAdd, Nat.reduceSub, Nat.reduceLT, Nat.reduceLeDiff, List.replicate_succ, List.replicate_zero, List.append_nil, List.nil_append, List.cons_append, List.set_cons_zero, List.set_cons_succ, List.getElem?_cons_zero, List.getElem?_cons_succ,
  Option.some.injEq, List.cons.injEq, and_true, true_and, and_assoc, reduceCtorEq, L2.V.int.injEq, L2.V.ref.injEq, L2.V.bl.injEq, L2.V.str.injEq, L2.V.ty.injEq, L2.HO.ins.injEq, L2.HO.lst.injEq, L2.HO.tup.injEq, L2.HO.dK.injEq, exists_eq_left', exists_eq_left, exists_eq_right, exists_eq', exists_eq, exists_and_left, exists_and_right, reduceIte, Bool.false_eq_true, Bool.not_true, Bool.not_false,
  L2.tSeq, L2.tIfS, L2.tRet, L2.tRetN, L2.tNext, L2.tAsg, L2.gName, L2.tVar, L2.tC, L2.tCons, L2.tNil, L2.tCB, L2.tOp, L2.tUn, L2.tTup, L2.tLst, L2.tB, L2.tOr, L2.tAnd, L2.tNot, L2.tAndV, L2.tOrV, L2.tNotV, L2.tIf, L2.tTest, L2.tChain, L2.rI, L2.rI0, L2.rU, L2.tDrop, L2.tNever, L2.tCall, L2.tMeth, L2.tMake, L2.rGcd, L2.tFld, L2.sFld, L2.sFldAug, Mx.sFldA, Mx.sFldAugA, L2.rAdd, L2.rSub, L2.rEq, L2.rNe, L2.tDGet, L2.tDIn, L2.tDNotIn, L2.sDPut,
  Mx.isi_int_bool, Mx.isi_int_int, Mx.isi_int_tuple, Mx.isi_int_list, Mx.isi_int_str, Mx.scal_int, Mx.scal_str, Mx.scal_bl, Mx.ofString_inj, Mx.ofString_beq, Mx.lk_cons, Mx.pf_nil, Mx.pf_cons, Mx.sz1, Mx.sz2, List.lookup_nil, String.reduceEq, decide_true, decide_false, decide_eq_true_eq, Int.natAbs_natCast, L2.upd_same, L2.upd_upd, L2.cxOf, L2.gSub, L2.tPar, L2.gCons, L2.gNil, L2.tSl, L2.tPart, L2.rSlL, L2.gStar1, L2.tKGet2, L2.tNoPart, L2.tM1, *])

section
variable {P : Program} {w : World} {K : PySem.W.Frag} {mg : Str → Option Value} {base : Heap}
theorem cut_1 (xs : List V) : cutV xs (some 1) none = xs.drop 1 := by
  cases xs with
  | nil => rfl
  | cons x r =>
    show (List.drop (HT.sIx (r.length + 1) 0 (some 1)) (x :: r)).take _ = r
    have e : HT.sIx (r.length + 1) 0 (some 1) = 1 := by
      unfold HT.sIx
      simp
    have e2 : HT.sIx (r.length + 1) (r.length + 1) none = r.length + 1 := rfl
    show (List.drop (HT.sIx (r.length + 1) 0 (some 1)) (x :: r)).take (HT.sIx (r.length + 1) (r.length + 1) none - HT.sIx (r.length + 1) 0 (some 1)) = r
    rw [e, e2]
    show r.take (r.length + 1 - 1) = r
    rw [Nat.add_sub_cancel, List.take_length]
theorem cut_2 (xs : List V) : cutV xs none (some 2) = xs.take 2 := by
  show (xs.drop (HT.sIx xs.length 0 none)).take (HT.sIx xs.length xs.length (some 2) - HT.sIx xs.length 0 none) = xs.take 2
  have e0 : HT.sIx xs.length 0 none = 0 := rfl
  rw [e0, List.drop_zero, Nat.sub_zero]
  have e2 : HT.sIx xs.length xs.length (some 2) = min 2 xs.length := by
    unfold HT.sIx
    simp
  rw [e2, List.take_eq_take_iff]
  omega
def sp_is_deedR (K : PySem.W.Frag) : Sp := fun vs H Q _ => ∃ (a : Addr) (d : DD), vs = [.ref a] ∧ d.at K H a ∧ d.rs.length ≤ 100000 ∧ (∀ xs, Sum.inr xs ∈ d.rs → xs.length ≤ 100000) ∧ ∀ H', Stp [] H H' → Q (.bl (okD d)) H'
theorem sc_is_deed : FnScope ["deed", "word", "parts"] ["deed"] (defScope s_is_deed) := ⟨rfl, rfl, rfl, by decide +kernel, rfl, by decide +kernel, by decide +kernel⟩
theorem ok_is_deedR {f aP : Addr} {fd : FuncData} (F : Fun K "is_deed" "is_deed" s_is_deed f fd) (B : Blt mg) (hP : PartsOk2 K w mg aP) (GA : OwnF P w K mg base "are_plain" 2 ["parts"] (sp_are_plainR K)) (GP : OwnF P w K mg base "is_parcel" 2 ["numbers"] (sp_is_parcelR K)) : FnOk P w K mg base CX0 3 f fd ["deed"] (sp_is_deedR K) := by
  refine F.ok sc_is_deed (fun vs H Q E h => ?_) (fun cdv A outer s H vs Q E hr h => ?_)
  · obtain ⟨a, xs, rfl, _⟩ := h
    rfl
  · obtain ⟨a, d, rfl, hd, hl, hxl, k⟩ := h
    have nd := sc_is_deed.nd
    refine ⟨_, pss_cons (ps_if (PW.pt (pw_or (pt_not (pt_val (b_isi B (pv 0) B.tuple PyProof.Rows.boot_tuple))) (pw_or1 (pt_cmpR op_eq (pe_callB call_len_seq (by rfl) B.len PySem.boot_len (pa_cons (pv 0) pa_nil)) pe_int (nomark _))))) pss_never pss_nil)
      (pss_cons (ps_asg (pv 0) (pg_star1 (i := 1) (j := 2) rfl nd rfl (.inl rfl) rfl (.inl rfl)))
      (pss_cons (ps_if (PW.pt (pw_or (pt_not (pt_val (b_isi B (pv 1) B.str PyProof.Rows.boot_str))) (pw_or1 (pt_cmpR op_ne (pe_kget2 (pe_glob (v := .ref aP) (by rfl) hP.mg rfl) (pv 1) ⟨rfl, rfl, rfl, rfl⟩) (pe_callB call_len_seq (by rfl) B.len PySem.boot_len (pa_cons (pv 2) pa_nil)) (nomark _))))) (pss_one (ps_ret pe_bl)) pss_nil)
      (pss_cons (ps_if (pt_cmpR op_eq (pv 1) pe_str (nomark _)) (pss_one (ps_ret (pe_and (p_call GA hr (pa_cons (pe_slice sl_list (pv 2) po_none (po_some pe_int)) pa_nil)) (pe_one (p_call GP hr (pa_cons (pe_ix ix_list (pv 2) pe_int (fun _ _ => rfl)) pa_nil)))))) pss_nil)
      (pss_one (ps_ret (p_call GA hr (pa_cons (pv 2) pa_nil))))))), ?_⟩
    obtain ⟨wd, rs⟩ := d
    obtain ⟨xs, ht, hp⟩ := hd
    have hlen := hp.length
    have hl' : rs.length ≤ 100000 := hl
    have ek : ∀ H' b, Stp [] H H' → okD ⟨wd, rs⟩ = b → Q (.bl b) H' := fun H' b s' e => e ▸ k H' s'
    clear k
    walk_at "rd"
    refine isi_tupA (b := true) ht (by decide +kernel) ?_
    walk_at "rd"
    refine ⟨_, .inr ht.sq, ?_⟩
    walk_at "rd"
    rw [if_neg (by omega)]
    refine ⟨.str wd, xs, ht.sq, fun p hp0 => ?_⟩
    have s1 := Stp.new (o := .lst xs) hp0
    have e1 : upd H p (.lst xs) p = some (.lst xs) := upd_same
    have hp1 := pr_mapR (fun _ _ q => RVat.st q s1) hp
    generalize upd H p (.lst xs) = H1 at *
    refine isi_strA (b := true) (by decide +kernel) ⟨_, rfl, ?_⟩
    rw [if_neg (by decide)]
    obtain ⟨es, n, a1, a2⟩ := hP.at_
    refine ⟨⟨es, ⟨n, a1⟩, a2⟩, hP.sys, wd, rfl, pV wd, hP.get wd, xs, .inl (.inl (.inl e1)), ?_, ?_⟩
    · unfold pV
      split <;> rfl
    have hmem := pV_iff wd xs.length
    have elen : xs.length = rs.length := hlen.symm
    have hkn : ∀ x ∈ xs, Kn K H1 x := by
      intro x hx
      obtain ⟨j, hj, rfl⟩ := List.mem_iff_getElem.mp hx
      obtain ⟨r, y, _, hy, q⟩ := pr_get hp1 j (by omega) hj
      rw [List.getElem?_eq_getElem hj] at hy
      cases hy
      exact ⟨r, q⟩
    by_cases hm : (wd, rs.length) ∈ partsT
    · rw [elen] at hmem
      rw [elen, decide_eq_true (hmem.mpr hm)]
      rw [if_neg (by decide)]
      refine ⟨rfl, ?_⟩
      by_cases hw : wd = "parcel"
      · subst hw
        rw [if_pos rfl]
        walk_at "rd"
        refine ⟨_, .inl (.inl e1), fun p2 hp2 => ?_⟩
        rw [cut_2]
        have s2 := Stp.new (o := .lst (xs.take 2)) hp2
        have e2 : upd H1 p2 (.lst (xs.take 2)) p2 = some (.lst (xs.take 2)) := upd_same
        have e12 := s2.keep _ _ e1 (by simp)
        have hp3 := pr_mapR (fun _ _ q => RVat.st q s2) hp1
        generalize upd H1 p2 _ = H2 at *
        refine ⟨p2, xs.take 2, rfl, e2, by rw [List.length_take]; omega, fun x hx => (hkn x (List.mem_of_mem_take hx)).st s2, fun H3 s3 => ⟨_, rfl, ?_⟩⟩
        have ea := all_wB (pr_take 2 hp3)
        rw [ea]
        have hl3 : rs.length = 3 := by
          have hm' := hm
          unfold partsT at hm'
          simp only [List.mem_cons, Prod.mk.injEq, List.not_mem_nil, or_false, ofString_inj, String.reduceEq, false_and, true_and, false_or] at hm'
          exact hm'
        match rs, xs, hl3, hp3, ek, hxl with
        | [r0, r1, r2], _, _, .cons q0 (.cons q1 (.cons (b := v2) q2 .nil)), ek, hxl =>
        have eo : okD ⟨"parcel", [r0, r1, r2]⟩ = (([r0, r1, r2].take 2).all okP && okT r2) := by
          unfold okD
          rw [decide_eq_true hm, Bool.true_and, if_pos rfl]
          rfl
        cases hb : ([r0, r1, r2].take 2).all okP with
        | false =>
          rw [if_neg (by decide)]
          exact ek H3 _ ((s1.trans (s2.trans s3)).sub (by simp)) (by rw [eo, hb, Bool.false_and])
        | true =>
          rw [if_pos rfl]
          refine ixL (.inl (.inl (s3.keep _ _ e12 (by simp)))) (x := v2) rfl ?_
          have s03 := s1.trans (s2.trans s3)
          refine ⟨v2, r2, rfl, q2.st s3, fun ys e => hxl ys (by rw [e]; simp), fun H4 s4 => ek H4 _ ((s03.trans s4).sub (by simp)) (by rw [eo, hb, Bool.true_and])⟩
      · rw [if_neg (by simpa using hw)]
        refine ⟨p, xs, rfl, e1, by omega, hkn, fun H' s' => ek H' _ ((s1.trans s').sub (by simp)) ?_⟩
        unfold okD
        rw [decide_eq_true hm, Bool.true_and, if_neg hw]
        exact (all_wB hp1).symm
    · rw [elen] at hmem
      rw [elen, decide_eq_false (fun z => hm (hmem.mp z))]
      rw [if_pos (by decide)]
      refine ek _ _ (s1.sub (by simp)) ?_
      unfold okD
      rw [decide_eq_false hm, Bool.false_and]
def sp_check_deedsR (K : PySem.W.Frag) : Sp := fun vs H Q _ => ∃ (a : Addr) (ps : List Addr), vs = [.ref a] ∧ H a = some (.lst (ps.map V.ref)) ∧ ps.length ≤ 300 ∧ (∀ p ∈ ps, ∃ d : DD, d.at K H p ∧ okD d = true) ∧ ∀ H', Stp [] H H' → Q .non H'
theorem okD_len {d : DD} (h : okD d = true) : d.rs.length ≤ 100000 ∧ ∀ xs, Sum.inr xs ∈ d.rs → xs.length ≤ 100000 := by
  have g := Good.of h
  have := (w_ne g.mem).2.2
  refine ⟨by omega, fun xs hx => ?_⟩
  rcases g.c with ⟨_, ns, e, _⟩ | ⟨_, n, pl, ms, e, _, _, h3, _⟩
  · rw [e] at hx
    obtain ⟨i, _, z⟩ := List.mem_map.mp hx
    cases z
  · rw [e] at hx
    simp only [List.mem_cons, List.not_mem_nil, or_false, reduceCtorEq, false_or, Sum.inr.injEq] at hx
    subst hx
    rw [List.length_map]
    omega
end
end Mx

namespace Mx
open PySem L2 TL
/-! ### texts cut: how many, how long -/
theorem spl_bound (s : Nat) : ∀ (L acc : List Nat), (spl [s] 0 acc L).length ≤ L.length + 1 ∧ ∀ w ∈ spl [s] 0 acc L, w.length ≤ acc.length + L.length
  | [], acc => by
    rw [spl_nil]
    exact ⟨by simp, fun w hw => by rw [List.mem_singleton.mp hw]; simp⟩
  | c :: r, acc => by
    by_cases h : pre [s] (c :: r) = true
    · rw [spl_hit h]
      have ih := spl_bound s r []
      refine ⟨by simp only [List.length_cons]; have := ih.1; show (spl [s] 0 [] r).length + 1 ≤ _; omega, fun w hw => ?_⟩
      rcases List.mem_cons.mp hw with rfl | hw
      · simp
      · have := ih.2 w hw
        simp only [List.length_cons, List.length_nil] at this ⊢
        omega
    · have h' : pre [s] (c :: r) = false := by simpa using h
      rw [spl_miss h']
      have ih := spl_bound s r (acc ++ [c])
      refine ⟨by simp only [List.length_cons]; have := ih.1; omega, fun w hw => ?_⟩
      have := ih.2 w hw
      simp only [List.length_append, List.length_cons, List.length_nil] at this ⊢
      omega
theorem split_bound {x y : Str} {s : Nat} (hy : tl y = [s]) (hk : y.cps.all (· < 256) = true) : (Txt.split x y).length ≤ x.length + 1 ∧ ∀ w ∈ Txt.split x y, w.length ≤ x.length := by
  have e := split_spl x y (by rw [hy]; simp) (kind_ok hk)
  rw [hy] at e
  have b := spl_bound s (tl x) []
  have el := congrArg List.length e
  rw [List.length_map] at el
  refine ⟨by rw [el, len_tl]; exact b.1, fun w hw => ?_⟩
  have := b.2 (tl w) (by rw [← e]; exact List.mem_map.mpr ⟨w, hw, rfl⟩)
  rw [len_tl, len_tl]
  simpa using this
theorem spl_ne (s : Nat) : ∀ (L acc : List Nat), spl [s] 0 acc L ≠ []
  | [], acc => by rw [spl_nil]; simp
  | c :: r, acc => by
    by_cases h : pre [s] (c :: r) = true
    · rw [spl_hit h]; simp
    · have h' : pre [s] (c :: r) = false := by simpa using h
      rw [spl_miss h']
      exact spl_ne s r _
theorem split_ne {x y : Str} {s : Nat} (hy : tl y = [s]) (hk : y.cps.all (· < 256) = true) : Txt.split x y ≠ [] := by
  have e := split_spl x y (by rw [hy]; simp) (kind_ok hk)
  rw [hy] at e
  intro z
  rw [z] at e
  exact spl_ne s (tl x) [] e.symm
theorem digits_le : ∀ l : List Nat, l.all isFig = true → l.length ≤ 3 → NumText.digitsVal l ≤ 999 := by
  intro l ha hl
  have hx : ∀ c ∈ l, c ≤ 57 := fun c hc => (all_fig ha c hc).2
  match l, hl with
  | [], _ => decide
  | [a], _ => have := hx a (by simp); simp only [NumText.digitsVal, List.foldl_cons, List.foldl_nil]; omega
  | [a, b], _ => have := hx a (by simp); have := hx b (by simp); simp only [NumText.digitsVal, List.foldl_cons, List.foldl_nil]; omega
  | [a, b, c], _ => have := hx a (by simp); have := hx b (by simp); have := hx c (by simp); simp only [NumText.digitsVal, List.foldl_cons, List.foldl_nil]; omega
  | a :: b :: c :: d :: r, hl => simp only [List.length_cons] at hl; omega
theorem okF_le {L : List Nat} (h : okF L = true) : -999 ≤ valF L ∧ valF L ≤ 999 := by
  unfold okF at h
  simp only [Bool.and_eq_true, decide_eq_true_eq] at h
  have := digits_le _ h.2 h.1.2
  unfold valF
  split <;> omega
theorem figs_len (L : List Nat) : L.length ≤ (figs L).length + 1 ∧ (figs L).length ≤ L.length := by
  cases hn : neg? L with
  | true =>
    have e := figs_neg hn
    have := congrArg List.length e
    rw [List.length_cons] at this
    omega
  | false =>
    rw [figs_pos hn]
    omega
theorem log_ok {i : Int} (h0 : -999 ≤ i) (h1 : i ≤ 999) : i.natAbs.log2 < 1920 := by
  have := Nat.log2_le_self i.natAbs
  omega
/-- str of a number or of a text -/
def rStrA : List V → Hp → VK → Prop := fun xs H Q => (∃ i, xs = [.int i] ∧ i.natAbs.log2 < 1920 ∧ Q (.str (toString i)) H) ∨ ∃ a, xs = [.str a] ∧ Q (.str a) H
theorem call_strA {X : Cx} : CallR X (.type "str") rStrA := by
  intro pins s σ H xs us Q I r h
  rcases h with h | h
  · exact call_str_int pins s σ H xs us Q I r h
  · exact SkE.call_str_str pins s σ H xs us Q I r h
set_option hygiene false in
local macro_rules | `(tactic| walk_at "rd") => `(tactic| try simp only [L2.start, List.map_cons, List.map_nil, List.length_cons, List.length_nil, Nat.reduceAdd, Nat.reduceSub, Nat.reduceLT, Nat.reduceLeDiff, List.replicate_succ, List.replicate_zero, List.append_nil, List.nil_append, List.cons_append, List.set_cons_zero, List.set_cons_succ, List.getElem?_cons_zero, List.getElem?_cons_succ,
  Option.some.injEq, List.cons.injEq, and_true, true_and, and_assoc, reduceCtorEq, L2.V.int.injEq, L2.V.ref.injEq, L2.V.bl.injEq, L2.V.str.injEq, L2.V.ty.injEq, L2.HO.ins.injEq, L2.HO.lst.injEq, L2.HO.tup.injEq, L2.HO.dK.injEq, exists_eq_left', exists_eq_left, exists_eq_right, exists_eq', exists_eq, exists_and_left, exists_and_right, reduceIte, Bool.false_eq_true, Bool.not_true, Bool.not_false,
  L2.tSeq, L2.tIfS, L2.tRet, L2.tRetN, L2.tNext, L2.tAsg, L2.gName, L2.tVar, L2.tC, L2.tCons, L2.tNil, L2.tCB, L2.tOp, L2.tUn, L2.tTup, L2.tLst, L2.tB, L2.tOr, L2.tAnd, L2.tNot, L2.tAndV, L2.tOrV, L2.tNotV, L2.tIf, L2.tTest, L2.tChain, L2.rI, L2.rI0, L2.rU, L2.tDrop, L2.tNever, L2.tCall, L2.tMeth, L2.tMake, L2.rGcd, L2.tFld, L2.sFld, L2.sFldAug, Mx.sFldA, Mx.sFldAugA, L2.rAdd, L2.rSub, L2.rEq, L2.rNe, L2.tDGet, L2.tDIn, L2.tDNotIn, L2.sDPut,
  Mx.isi_int_bool, Mx.isi_int_int, Mx.isi_int_tuple, Mx.isi_int_list, Mx.isi_int_str, Mx.scal_int, Mx.scal_str, Mx.scal_bl, Mx.ofString_inj, Mx.ofString_beq, Mx.lk_cons, Mx.pf_nil, Mx.pf_cons, Mx.sz1, Mx.sz2, List.lookup_nil, String.reduceEq, decide_true, decide_false, decide_eq_true_eq, Int.natAbs_natCast, L2.upd_same, L2.upd_upd, L2.cxOf, L2.gSub, L2.tPar, L2.gCons, L2.gNil, L2.tSl, L2.tPart, L2.rSlL, L2.gStar1, L2.tKGet2, L2.tNoPart, L2.tM1])
set_option hygiene false in
local macro_rules | `(tactic| walk_at "rds") => `(tactic| try simp only [L2.start, List.map_cons, List.map_nil, List.length_cons, List.length_nil, Nat.reduceAdd, Nat.reduceSub, Nat.reduceLT, Nat.reduceLeDiff, List.replicate_succ, List.replicate_zero, List.append_nil, List.nil_append, List.cons_append, List.set_cons_zero, List.set_cons_succ, List.getElem?_cons_zero, List.getElem?_cons_succ,
  Option.some.injEq, List.cons.injEq, and_true, true_and, and_assoc, reduceCtorEq, L2.V.int.injEq, L2.V.ref.injEq, L2.V.bl.injEq, L2.V.str.injEq, L2.V.ty.injEq, L2.HO.ins.injEq, L2.HO.lst.injEq, L2.HO.tup.injEq, L2.HO.dK.injEq, exists_eq_left', exists_eq_left, exists_eq_right, exists_eq', exists_eq, exists_and_left, exists_and_right, reduceIte, Bool.false_eq_true, Bool.not_true, Bool.not_false,
  L2.tSeq, L2.tIfS, L2.tRet, L2.tRetN, L2.tNext, L2.tAsg, L2.gName, L2.tVar, L2.tC, L2.tCons, L2.tNil, L2.tCB, L2.tOp, L2.tUn, L2.tTup, L2.tLst, L2.tB, L2.tOr, L2.tAnd, L2.tNot, L2.tAndV, L2.tOrV, L2.tNotV, L2.tIf, L2.tTest, L2.tChain, L2.rI, L2.rI0, L2.rU, L2.tDrop, L2.tNever, L2.tCall, L2.tMeth, L2.tMake, L2.rGcd, L2.tFld, L2.sFld, L2.sFldAug, Mx.sFldA, Mx.sFldAugA, L2.rAdd, L2.rSub, L2.rEq, L2.rNe, L2.tDGet, L2.tDIn, L2.tDNotIn, L2.sDPut,
  Mx.isi_int_bool, Mx.isi_int_int, Mx.isi_int_tuple, Mx.isi_int_list, Mx.isi_int_str, Mx.scal_int, Mx.scal_str, Mx.scal_bl, Mx.ofString_inj, Mx.ofString_beq, Mx.lk_cons, Mx.pf_nil, Mx.pf_cons, Mx.sz1, Mx.sz2, List.lookup_nil, String.reduceEq, decide_true, decide_false, decide_eq_true_eq, Int.natAbs_natCast, L2.upd_same, L2.upd_upd, L2.cxOf, L2.gSub, L2.tPar, L2.gCons, L2.gNil, L2.tSl, L2.tPart, L2.rSlL, L2.gStar1, L2.tKGet2, L2.tNoPart, L2.tM1, *])

section
variable {P : Program} {w : World} {K : PySem.W.Frag} {mg : Str → Option Value} {base : Heap}
/-! ### rows -/
abbrev teStr (i : Nat) : TE := tCB rStrA (tCons (tVar i) tNil)
end
end Mx

namespace Mx
open PySem L2 TL
set_option hygiene false in
local macro_rules | `(tactic| walk_at "rd") => `(tactic| try simp only [L2.start, List.map_cons, List.map_nil, List.length_cons, List.length_nil, Nat.reduceAdd, Nat.reduceSub, Nat.reduceLT, Nat.reduceLeDiff, List.replicate_succ, List.replicate_zero, List.append_nil, List.nil_append, List.cons_append, List.set_cons_zero, List.set_cons_succ, List.getElem?_cons_zero, List.getElem?_cons_succ,
  Option.some.injEq, List.cons.injEq, and_true, true_and, and_assoc, reduceCtorEq, L2.V.int.injEq, L2.V.ref.injEq, L2.V.bl.injEq, L2.V.str.injEq, L2.V.ty.injEq, L2.HO.ins.injEq, L2.HO.lst.injEq, L2.HO.tup.injEq, L2.HO.dK.injEq, exists_eq_left', exists_eq_left, exists_eq_right, exists_eq', exists_eq, exists_and_left, exists_and_right, reduceIte, Bool.false_eq_true, Bool.not_true, Bool.not_false,
  L2.tSeq, L2.tIfS, L2.tRet, L2.tRetN, L2.tNext, L2.tAsg, L2.gName, L2.tVar, L2.tC, L2.tCons, L2.tNil, L2.tCB, L2.tOp, L2.tUn, L2.tTup, L2.tLst, L2.tB, L2.tOr, L2.tAnd, L2.tNot, L2.tAndV, L2.tOrV, L2.tNotV, L2.tIf, L2.tTest, L2.tChain, L2.rI, L2.rI0, L2.rU, L2.tDrop, L2.tNever, L2.tCall, L2.tMeth, L2.tMake, L2.rGcd, L2.tFld, L2.sFld, L2.sFldAug, Mx.sFldA, Mx.sFldAugA, L2.rAdd, L2.rSub, L2.rEq, L2.rNe, L2.tDGet, L2.tDIn, L2.tDNotIn, L2.sDPut,
  Mx.isi_int_bool, Mx.isi_int_int, Mx.isi_int_tuple, Mx.isi_int_list, Mx.isi_int_str, Mx.scal_int, Mx.scal_str, Mx.scal_bl, Mx.ofString_inj, Mx.ofString_beq, Mx.lk_cons, Mx.pf_nil, Mx.pf_cons, Mx.sz1, Mx.sz2, List.lookup_nil, String.reduceEq, decide_true, decide_false, decide_eq_true_eq, Int.natAbs_natCast, L2.upd_same, L2.upd_upd, L2.cxOf, L2.gSub, L2.tPar, L2.gCons, L2.gNil, L2.tSl, L2.tPart, L2.rSlL, L2.gStar1, L2.tKGet2, L2.tNoPart, L2.tM1])
set_option hygiene false in
local macro_rules | `(tactic| walk_at "rds") => `(tactic| try simp only [L2.start, List.map_cons, List.map_nil, List.length_cons, List.length_nil, Nat.reduceAdd, Nat.reduceSub, Nat.reduceLT, Nat.reduceLeDiff, List.replicate_succ, List.replicate_zero, List.append_nil, List.nil_append, List.cons_append, List.set_cons_zero, List.set_cons_succ, List.getElem?_cons_zero, List.getElem?_cons_succ,
  Option.some.injEq, List.cons.injEq, and_true, true_and, and_assoc, reduceCtorEq, L2.V.int.injEq, L2.V.ref.injEq, L2.V.bl.injEq, L2.V.str.injEq, L2.V.ty.injEq, L2.HO.ins.injEq, L2.HO.lst.injEq, L2.HO.tup.injEq, L2.HO.dK.injEq, exists_eq_left', exists_eq_left, exists_eq_right, exists_eq', exists_eq, exists_and_left, exists_and_right, reduceIte, Bool.false_eq_true, Bool.not_true, Bool.not_false,
  L2.tSeq, L2.tIfS, L2.tRet, L2.tRetN, L2.tNext, L2.tAsg, L2.gName, L2.tVar, L2.tC, L2.tCons, L2.tNil, L2.tCB, L2.tOp, L2.tUn, L2.tTup, L2.tLst, L2.tB, L2.tOr, L2.tAnd, L2.tNot, L2.tAndV, L2.tOrV, L2.tNotV, L2.tIf, L2.tTest, L2.tChain, L2.rI, L2.rI0, L2.rU, L2.tDrop, L2.tNever, L2.tCall, L2.tMeth, L2.tMake, L2.rGcd, L2.tFld, L2.sFld, L2.sFldAug, Mx.sFldA, Mx.sFldAugA, L2.rAdd, L2.rSub, L2.rEq, L2.rNe, L2.tDGet, L2.tDIn, L2.tDNotIn, L2.sDPut,
  Mx.isi_int_bool, Mx.isi_int_int, Mx.isi_int_tuple, Mx.isi_int_list, Mx.isi_int_str, Mx.scal_int, Mx.scal_str, Mx.scal_bl, Mx.ofString_inj, Mx.ofString_beq, Mx.lk_cons, Mx.pf_nil, Mx.pf_cons, Mx.sz1, Mx.sz2, List.lookup_nil, String.reduceEq, decide_true, decide_false, decide_eq_true_eq, Int.natAbs_natCast, L2.upd_same, L2.upd_upd, L2.cxOf, L2.gSub, L2.tPar, L2.gCons, L2.gNil, L2.tSl, L2.tPart, L2.rSlL, L2.gStar1, L2.tKGet2, L2.tNoPart, L2.tM1, *])

section
variable {P : Program} {w : World} {K : PySem.W.Frag} {mg : Str → Option Value} {base : Heap}
/-! ### rows read -/
def sp_number_of : Sp := fun vs H Q _ => ∃ z : Str, vs = [.str z] ∧ z.length ≤ 99990 ∧ ∀ H', Stp [] H H' → Q (oV (numO z)) H'
def rInSign : R2 := fun x y H Q => ∃ (c : Nat) (z : Str), x = .str ⟨#[c]⟩ ∧ y = .str z ∧ Q (.bl (decide (c ∈ z.cps.toList))) H
theorem sc_number_of : FnScope ["word", "figures", "number", "figure"] ["word"] (defScope s_number_of) := ⟨rfl, rfl, rfl, by decide +kernel, rfl, by decide +kernel, by decide +kernel⟩
theorem ok_number_of {f : Addr} {fd : FuncData} (F : Fun K "number_of" "number_of" s_number_of f fd) (B : Blt mg) {tF : Tok} (hF : mg "FIGURES" = some (.str "0123456789" tF)) : FnOk P w K mg base CX0 1 f fd ["word"] sp_number_of := by
  refine F.ok sc_number_of (fun vs H Q E h => ?_) (fun cdv A outer s H vs Q E hr h => ?_)
  · obtain ⟨z, rfl, _⟩ := h
    rfl
  · obtain ⟨z, rfl, hz, k⟩ := h
    have nd := sc_number_of.nd
    refine ⟨_, pss_cons (ps_set (i := 1) nd rfl (.inl rfl) (pe_m1 PySem.F.slot_str_removeprefix PySem.F.type_str_removeprefix mt_removeprefix (pv 0) pe_str))
      (pss_cons (ps_if (PW.pt (pw_or (pt_not (pt_chain op_le op_le pe_int (pe_callB call_len_str (by rfl) B.len PySem.boot_len (pa_cons (pv 1) pa_nil)) pe_int)) (pw_or1 (pt_not (pt_val (pe_callB (cr_all rfl) (by rfl) B.all PyProof.Rows.boot_all (pa_cons (pe_lc (own := [("figure", 3)]) (te := tOp rInSign (tVar 3) (tC (.str "0123456789"))) rfl nd (pi_str (pv 1)) (blkOk_by (N := ["word", "figures", "number", "figure"]) (sc := defScope s_number_of) (by decide +kernel))
      (fun _ _ _ _ _ => pg_name (i := 3) nd rfl (.inl rfl)) (fun _ _ _ _ _ => pts_nil) (fun _ _ _ _ _ => pe_cmpR op_in_sign (pv 3) (pe_glob (v := .str "0123456789") (by rfl) hF ⟨_, rfl⟩) (by rfl))) pa_nil))))))) (pss_one (ps_ret pe_non)) pss_nil)
      (pss_cons (ps_set (i := 2) nd rfl (.inl rfl) (pe_callTy call_int_str (by rfl) B.int PyProof.Rows.boot_int (pa_cons (pv 0) pa_nil)))
      (pss_one (ps_ret (pe_ifExp (pt_cmpR op_eq (pe_callTy call_strA (by rfl) B.str PyProof.Rows.boot_str (pa_cons (pv 2) pa_nil)) (pv 0) (nomark _)) (pv 2) pe_non))))), ?_⟩
    have hfl := figs_len (tl z)
    have hzl := len_tl z
    have hsz : (99990 : Nat) ≤ sizeLine := by decide
    generalize hfg : Txt.removeprefix z (Str.ofString "-") = fg
    have htf : tl fg = figs (tl z) := by rw [← hfg]; exact tl_noPre z
    have hgl : fg.length = (figs (tl z)).length := by rw [len_tl, htf]
    walk_at "rd"
    refine ⟨by omega, ?_⟩
    rw [hfg]
    refine ⟨by omega, ?_⟩
    by_cases hk : 1 ≤ (figs (tl z)).length ∧ (figs (tl z)).length ≤ 3
    · rw [if_pos (by omega)]
      rw [decide_eq_true (show ((fg.length : Nat) : Int) ≤ 3 by omega)]
      walk_at "rd"
      refine lc_strYv (z := fg) (ys := (figs (tl z)).map fun c => V.bl (isFig c)) rfl (by rw [List.length_map, htf]) (by rw [htf]; omega) (fun j c y H1 hj hy s1 Q' q => ?_) (fun D H1 hD s1 h1 => ?_)
      · rw [htf] at hj
        rw [List.getElem?_map, hj] at hy
        cases hy
        refine ⟨_, rfl, c, _, rfl, rfl, ?_⟩
        rw [fig_in]
        exact q H1 Stp.refl
      · refine ⟨D, (figs (tl z)).map isFig, rfl, .inl (.inl (by rw [h1, List.map_map]; rfl)), ?_⟩
        have ea : ((figs (tl z)).map isFig).all id = (figs (tl z)).all isFig := by rw [List.all_map]; rfl
        rw [ea]
        cases hall : (figs (tl z)).all isFig with
        | false =>
          walk_at "rd"
          have e : numO z = none := by
            unfold numO okF
            rw [hall, Bool.and_false, if_neg (by decide)]
          rw [show V.non = oV (numO z) from by rw [e]; rfl]
          exact k H1 s1
        | true =>
          have hok : okF (tl z) = true := by
            unfold okF
            rw [hall, decide_eq_true hk]
            rfl
          have hb := okF_le hok
          walk_at "rd"
          refine ⟨_, int_okF hok, by omega, .inl ⟨_, rfl, log_ok hb.1 hb.2, rfl, ?_⟩⟩
          have hcmp : (V.str (numS (valF (tl z))) = V.str z) ↔ numT (valF (tl z)) = tl z := by
            rw [← tl_numS]
            constructor
            · intro e
              injection e with e'
              exact congrArg tl e'
            · intro e
              rw [ext_tl e]
          have kk := k H1 s1
          unfold numO at kk
          rw [if_pos hok] at kk
          by_cases he : numT (valF (tl z)) = tl z
          · rw [if_pos he] at kk
            rw [if_pos (hcmp.mpr he)]
            exact kk
          · rw [if_neg he] at kk
            rw [if_neg (fun q => he (hcmp.mp q))]
            exact kk
    · have e : numO z = none := by
        unfold numO okF
        rw [decide_eq_false hk, Bool.false_and, if_neg (by decide)]
      have kk := k H Stp.refl
      rw [e] at kk
      by_cases h1 : 1 ≤ (figs (tl z)).length
      · rw [if_pos (by omega)]
        rw [decide_eq_false (show ¬ ((fg.length : Nat) : Int) ≤ 3 by omega)]
        walk_at "rd"
        exact kk
      · rw [if_neg (by omega)]
        exact kk
def sp_deed_of (K : PySem.W.Frag) : Sp := fun vs H Q _ => ∃ z : Str, vs = [.str z] ∧ z.length ≤ 99980 ∧ ∀ H' p, Stp [] H H' → H p = none → (rdRow z).at K H' p → Q (.ref p) H'
theorem sc_deed_of : FnScope ["row", "words", "parts", "word"] ["row"] (defScope s_deed_of) := ⟨rfl, rfl, rfl, by decide +kernel, rfl, by decide +kernel, by decide +kernel⟩
theorem pr_inl {H : Hp} : ∀ ws : List Str, Paired (RVat K H) (ws.map fun w => (Sum.inl (numO w) : RV)) (ws.map fun w => oV (numO w))
  | [] => .nil
  | _ :: r => .cons rfl (pr_inl r)
theorem ok_deed_of {f : Addr} {fd : FuncData} (F : Fun K "deed_of" "deed_of" s_deed_of f fd) (B : Blt mg) (G : OwnF P w K mg base "number_of" 1 ["word"] sp_number_of) : FnOk P w K mg base CX0 2 f fd ["row"] (sp_deed_of K) := by
  refine F.ok sc_deed_of (fun vs H Q E h => ?_) (fun cdv A outer s H vs Q E hr h => ?_)
  · obtain ⟨z, rfl, _⟩ := h
    rfl
  · obtain ⟨z, rfl, hz, k⟩ := h
    have nd := sc_deed_of.nd
    refine ⟨_, pss_cons (ps_set (i := 1) nd rfl (.inl rfl) (pe_split (pv 0) pe_str))
      (pss_cons (ps_setLc (i := 2) (own := [("word", 3)]) (te := tCall sp_number_of [] E0 (tCons (tVar 3) tNil)) rfl nd rfl rfl (sw_true rfl rfl rfl (by decide +kernel)) (pi_list (pe_slice sl_list (pv 1) (po_some pe_int) po_none)) (blkOk_by (N := ["row", "words", "parts", "word"]) (sc := defScope s_deed_of) (by decide +kernel)) (fun _ _ _ _ _ => pg_name (i := 3) nd rfl (.inl rfl)) (fun _ _ _ _ _ => pts_nil) (fun _ _ _ _ _ => p_call G hr (pa_cons (pv 3) pa_nil)))
      (pss_cons (ps_if (PW.pt (pw_and (pt_cmpR op_eq (pe_ix ix_list (pv 1) pe_int (fun _ _ => rfl)) pe_str (nomark _)) (pw_and1 (pt_cmpR op_eq (pe_callB call_len_seq (by rfl) B.len PySem.boot_len (pa_cons (pv 2) pa_nil)) pe_int (nomark _)))))
        (pss_one (ps_asg (pe_callTy call_tuple_of (by rfl) B.tuple PyProof.Rows.boot_tuple (pa_cons (pe_lc (own := [("word", 3)]) (te := tCall sp_number_of [] E0 (tCons (tVar 3) tNil)) rfl nd (pi_list (pe_split (pe_ix ix_list (pv 1) pe_int (fun _ _ => rfl)) pe_str)) (blkOk_by (N := ["row", "words", "parts", "word"]) (sc := defScope s_deed_of) (by decide +kernel)) (fun _ _ _ _ _ => pg_name (i := 3) nd rfl (.inl rfl)) (fun _ _ _ _ _ => pts_nil) (fun _ _ _ _ _ => p_call G hr (pa_cons (pv 3) pa_nil))) pa_nil)) (pg_sub (pv 2) pe_int set_list))) pss_nil)
      (pss_one (ps_ret (pe_tup (pa_cons (pe_ix ix_list (pv 1) pe_int (fun _ _ => rfl)) (StX.pa_star (pv 2) pa_nil))))))), ?_⟩
    have hsl : (100000 : Nat) ≤ sizeLine := by decide
    have hsb := split_bound (x := z) (y := " ") (s := 32) tl_sp (by decide +kernel)
    have hne := split_ne (x := z) (y := " ") (s := 32) tl_sp (by decide +kernel)
    have kk : ∀ W : List Str, Txt.split z " " = W → ∀ H' p, Stp [] H H' → H p = none → (⟨W.headD Str.empty, rdParts W⟩ : DD).at K H' p → Q (.ref p) H' := fun W e => by
      subst e
      exact k
    clear k
    generalize hW : Txt.split z " " = W at *
    have kk := kk W rfl
    cases W with
    | nil => exact absurd rfl hne
    | cons w0 ws =>
    simp only [List.length_cons, List.mem_cons, forall_eq_or_imp] at hsb
    walk_at "rd"
    refine ⟨by rw [len_tl, tl_sp]; rfl, by omega, fun p1 hp1 => ?_⟩
    have hW' : Txt.split z (Str.ofString " ") = w0 :: ws := hW
    rw [hW']
    have s1 := Stp.new (o := .lst ((w0 :: ws).map V.str)) hp1
    have e1 : upd H p1 (.lst ((w0 :: ws).map V.str)) p1 = some (.lst ((w0 :: ws).map V.str)) := upd_same
    generalize upd H p1 _ = H1 at *
    have hws : ∀ x ∈ ws, x.length ≤ 99980 := fun x hx => Nat.le_trans (hsb.2.2 x hx) hz
    refine lc_lstYm (xs := ws.map V.str) (ys := ws.map fun w => oV (numO w)) (fun R hR => ?_) (by simp) (by rw [List.length_map]; omega) (fun j x y H2 hj hy s2 Q' q => ?_) (fun D H2 hD s2 h2 => ?_)
    · walk_at "rd"
      refine ⟨_, .inl (.inl e1), fun p2 hp2 => ?_⟩
      rw [cut_1]
      exact hR _ _ upd_same (Stp.new hp2)
    · rw [List.getElem?_map] at hj hy
      obtain ⟨u, hu, rfl⟩ := Option.map_eq_some_iff.mp hj
      rw [hu] at hy
      cases hy
      exact ⟨_, rfl, u, rfl, by have := hws u (List.mem_of_getElem? hu); omega, q⟩
    have e12 := s2.keep _ _ e1 (by simp)
    have hDp : D ≠ p1 := (ne_of_none e1 hD).symm
    have hD0 : H D = none := s1.free hD (by simp)
    have s02 := s1.trans s2
    refine ixL (.inl (.inl e12)) (x := .str w0) at0 ⟨rfl, ?_⟩
    have fin : ∀ H3 (vs : List V), Stp [D] H H3 → H3 p1 = some (.lst ((w0 :: ws).map V.str)) → H3 D = some (.lst vs) → vs.length ≤ 99990 → (∀ p H4, Stp [D] H3 H4 ∨ Stp [] H3 H4 → H3 p = none → Paired (RVat K H4) (rdParts (w0 :: ws)) vs) →
        rIxL K (.ref p1) (.int 0) H3 fun x_6 H1 => StX.tStar K (tVar 2) tNil [some (.str z), some (.ref p1), some (.ref D), none] H1 fun xs H2 => xs.length + 1 ≤ sizeLine ∧ ∀ (p : Addr), H2 p = none → Q (.ref p) (upd H2 p (.tup (x_6 :: xs))) := by
      intro H3 vs s3 g1 g2 hl hp
      refine ixL (.inl (.inl g1)) (x := .str w0) at0 ⟨_, rfl, D, vs, rfl, .inr (.inl (.inl g2)), ?_⟩
      show (vs ++ []).length + 1 ≤ sizeLine ∧ ∀ (p : Addr), H3 p = none → Q (.ref p) (upd H3 p (.tup (.str w0 :: (vs ++ []))))
      rw [List.append_nil]
      refine ⟨by omega, fun p hp3 => ?_⟩
      have s4 := Stp.new (o := .tup (.str w0 :: vs)) hp3
      refine kk _ p ((s3.trans s4).subN fun b hb => ?_) (s3.free hp3 (by simpa using (ne_of_none g2 hp3).symm)) ⟨vs, .inl upd_same, hp p _ (.inr s4) hp3⟩
      simp only [List.append_nil, List.mem_singleton] at hb
      subst hb
      exact .inr hD0
    have plain : ¬ (w0 = "parcel" ∧ ws.length = 3) → rdParts (w0 :: ws) = ws.map fun w => .inl (numO w) := fun h => by
      unfold rdParts
      exact if_neg h
    by_cases hw : w0 = "parcel"
    · rw [if_pos (by rw [hw])]
      refine ⟨D, rfl, _, .inl (.inl (.inl h2)), ?_⟩
      rw [List.length_map]
      by_cases h3 : ws.length = 3
      · rw [if_pos (by omega)]
        obtain ⟨wa, wb, wc, rfl⟩ : ∃ a b c, ws = [a, b, c] := by
          match ws, h3 with
          | [a, b, c], _ => exact ⟨a, b, c, rfl⟩
        have hcb := split_bound (x := wc) (y := ",") (s := 44) tl_com (by decide +kernel)
        have hcl := hws wc (by simp)
        refine lc_lstYm (xs := (Txt.split wc ",").map V.str) (ys := (Txt.split wc ",").map fun w => oV (numO w)) (fun R hR => ?_) (by simp) (by rw [List.length_map]; omega) (fun j x y H3 hj hy s3 Q' q => ?_) (fun D2 H3 hD2 s3 h3 => ?_)
        · walk_at "rd"
          refine ixL (.inl (.inl e12)) (x := .str wc) rfl ?_
          refine ⟨⟨_, rfl⟩, _, rfl, (by rw [len_tl, tl_com]; rfl), (by omega), fun p2 hp2 => ?_⟩
          exact hR _ _ upd_same (Stp.new hp2)
        · rw [List.getElem?_map] at hj hy
          obtain ⟨u, hu, rfl⟩ := Option.map_eq_some_iff.mp hj
          rw [hu] at hy
          cases hy
          exact ⟨_, rfl, u, rfl, by have := hcb.2 u (List.mem_of_getElem? hu); omega, q⟩
        refine ⟨D2, rfl, _, .inl ⟨.inl (.inl h3), fun l hl => ?_⟩⟩
        have hD3 := s3.keep _ _ h2 (by simp)
        have e13 := s3.keep _ _ e12 (by simp)
        have s4 := Stp.new (o := .tup ((Txt.split wc ",").map fun w => oV (numO w))) hl
        have hD4 := s4.keep _ _ hD3 (by simp)
        have e14 := s4.keep _ _ e13 (by simp)
        have hl4 : upd H3 l (.tup ((Txt.split wc ",").map fun w => oV (numO w))) l = _ := upd_same
        generalize upd H3 l _ = H4 at *
        refine setL hD4 (j := 2) rfl fun H5 g5 s5 => ?_
        refine fin H5 _ ((s02.trans (s3.trans (s4.trans s5))).sub (by simp)) (s5.keep _ _ e14 (by simpa using hDp.symm)) g5 (by show 3 ≤ 99990; decide) fun p H6 s6 _ => ?_
        have e : rdParts (w0 :: [wa, wb, wc]) = [.inl (numO wa), .inl (numO wb), .inr ((Txt.split wc ",").map numO)] := by
          unfold rdParts
          exact if_pos ⟨hw, rfl⟩
        rw [e]
        have ht6 : TupAt K H6 l (((Txt.split wc ",").map numO).map oV) := by
          rw [List.map_map]
          have := s5.tup _ _ hl4
          rcases s6 with s6 | s6
          · exact .inl (s6.tup _ _ this)
          · exact .inl (s6.tup _ _ this)
        exact .cons rfl (.cons rfl (.cons ⟨l, rfl, ht6⟩ .nil))
      · rw [if_neg (by omega)]
        refine fin H2 _ (s02.sub (by simp)) e12 h2 (by rw [List.length_map]; omega) fun p H6 s6 _ => ?_
        rw [plain fun q => h3 q.2]
        exact pr_inl ws
    · rw [if_neg (fun q => hw (by injection q))]
      refine fin H2 _ (s02.sub (by simp)) e12 h2 (by rw [List.length_map]; omega) fun p H6 s6 _ => ?_
      rw [plain fun q => hw q.1]
      exact pr_inl ws
end
end Mx

namespace Mx
open PySem L2 TL
/-! ### signs -/
theorem all_joinL {P : Nat → Prop} {S : List Nat} (hS : ∀ c ∈ S, P c) : ∀ {ps : List (List Nat)}, (∀ p ∈ ps, ∀ c ∈ p, P c) → ∀ c ∈ joinL S ps, P c
  | [], _ => by simp [joinL]
  | [p], h => h p (by simp)
  | p :: q :: r, h => by
    show ∀ c ∈ p ++ (S ++ joinL S (q :: r)), P c
    intro c hc
    rcases List.mem_append.mp hc with hc | hc
    · exact h p (by simp) c hc
    · rcases List.mem_append.mp hc with hc | hc
      · exact hS c hc
      · exact all_joinL hS (fun z hz => h z (List.mem_cons_of_mem _ hz)) c hc
theorem all_join {P : Nat → Prop} {y : Str} (hy : ∀ c ∈ tl y, P c) {ps : List Str} (h : ∀ p ∈ ps, ∀ c ∈ tl p, P c) : ∀ c ∈ tl (Txt.join y ps), P c := by
  rw [join_eq, tl_join]
  refine all_joinL hy fun p hp => ?_
  obtain ⟨z, hz, rfl⟩ := List.mem_map.mp hp
  exact h z hz
theorem num_small (i : Int) : ∀ c ∈ tl (numS i), c < 128 := by
  rw [tl_numS]
  intro c hc
  have hd := fun n => numL_digits n
  unfold numT at hc
  split at hc
  · rcases List.mem_cons.mp hc with rfl | hc
    · decide
    · have := hd _ c hc; omega
  · have := hd _ c hc; omega
theorem rv_small (r : RV) : ∀ c ∈ tl (rvTxt r), c < 128 := by
  cases r with
  | inl o => exact num_small _
  | inr xs =>
    refine all_join (by rw [tl_com]; decide) fun p hp => ?_
    obtain ⟨o, _, rfl⟩ := List.mem_map.mp hp
    exact num_small _
theorem w_small {d : DD} (h : (d.w, d.rs.length) ∈ partsT) : ∀ c ∈ tl d.w, c < 128 := by
  obtain ⟨w, rs⟩ := d
  have hw : w ∈ partsT.map Prod.fst := List.mem_map.mpr ⟨_, h, rfl⟩
  clear h
  unfold partsT at hw
  simp only [List.map_cons, List.map_nil, List.mem_cons, List.not_mem_nil, or_false] at hw
  rcases hw with rfl | rfl | rfl | rfl | rfl | rfl | rfl <;> (show ∀ c ∈ tl (Str.ofString _), _; rw [tl_ofString]; decide)
theorem row_small {d : DD} (h : (d.w, d.rs.length) ∈ partsT) : ∀ c ∈ tl (rowTxt d), c < 128 := by
  refine all_join (by rw [tl_sp]; decide) fun p hp => ?_
  rcases List.mem_cons.mp hp with rfl | hp
  · exact w_small h
  · obtain ⟨r, _, rfl⟩ := List.mem_map.mp hp
    exact rv_small r
theorem ok_small {x : Str} (h : ∀ c ∈ tl x, c < 128) : PyData.strOk x = true := by
  unfold PyData.strOk
  rw [← Array.all_toList]
  refine List.all_eq_true.mpr fun c hc => ?_
  have := h c hc
  exact decide_eq_true (by omega)
theorem all_ok {ds : List DD} (h : ∀ d ∈ ds, Good d) : PyData.strOk (allTxt ds) = true := by
  refine ok_small (all_join (by rw [tl_nl]; decide) fun p hp => ?_)
  obtain ⟨d, hd, rfl⟩ := List.mem_map.mp hp
  exact row_small (h d hd).mem
theorem lc_relLv {K : PySem.W.Frag} {a : Addr} {xs : List V} {i : Nat} {te : TE} {σ : L2.St} {H1 : Hp} {Q : VK} {j0 : Nat} (R : Hp → Nat → V → Prop) (hj : σ[j0]? = some (some (.ref a))) (ha : H1 a = some (.lst xs)) (hn : xs.length ≤ 100000) (hR : ∀ F' H H' j y, R H j y → Stp F' H H' → R H' j y)
    (he : ∀ (j : Nat) (x : V) (H : Hp), xs[j]? = some x → Stp [] H1 H → ∀ Q' : VK, (∀ y H', R H' j y → Stp [] H H' → Q' y H') → te ((wipe σ [i]).set i (some x)) H Q')
    (k : ∀ D H' ys, H1 D = none → Stp [] H1 H' → H' D = some (.lst ys) → Paired (R H') (List.range xs.length) ys → Q (.ref D) H') : tLc (iList K (tVar j0)) (gName i) tYes te [i] σ H1 Q := by
  refine ⟨_, hj, a, rfl, ⟨_, .inl (.inl ha)⟩, ?_⟩
  exact lc_rel (H9 := H1) (i := i) (tt := tYes) (te := te) (σ := σ) (Q := Q) (walk_list (K := K) (a := a) (xs := xs)) (F := []) (Z := fun _ => True) (R := R) (p := fun _ => true) (YX := fun j x => xs[j]? = some x) trivial (by simp) (fun _ _ _ _ _ _ _ => trivial) (fun H2 _ s => .inl (.inl (s.same _ _ ha))) hR hn (fun j H2 x H3 hj h => h)
    (fun j x H2 _ _ _ s Q' q => q H2 trivial s Stp.refl) (fun j x H2 hj hx _ _ s2 Q' q => he j x H2 hx s2 Q' fun y H' hy s' => q y H' hy trivial (s2.trans s') s') fun D H2 ys hD _ s2 h2 hp => by
      rw [List.filter_eq_self.mpr (fun _ _ => rfl)] at hp
      exact k D H2 ys hD s2 h2 hp
/-- places told one by one -/
theorem refs_of {R : Nat → Addr → Prop} : ∀ {js : List Nat} {ys : List V}, Paired (fun j y => ∃ p, y = .ref p ∧ R j p) js ys → ∃ ps : List Addr, ys = ps.map V.ref ∧ Paired R js ps
  | _, _, .nil => ⟨[], rfl, .nil⟩
  | _, _, .cons h r => by
    obtain ⟨p, rfl, hp⟩ := h
    obtain ⟨ps, rfl, hr⟩ := refs_of r
    exact ⟨p :: ps, rfl, .cons hp hr⟩
theorem pr_of_ix {α β : Type} {R : α → β → Prop} (xs : List α) {ps : List β} (h : Paired (fun (j : Nat) p => ∃ x, xs[j]? = some x ∧ R x p) (List.range xs.length) ps) : Paired R xs ps := by
  have el := h.length
  rw [List.length_range] at el
  have key : ∀ (n : Nat) (us : List α) (qs : List β), us.length = qs.length → (∀ i, i < us.length → ∃ x p, us[i]? = some x ∧ qs[i]? = some p ∧ R x p) → Paired R us qs := by
    intro _ us
    induction us with
    | nil =>
      intro qs hl _
      cases qs with
      | nil => exact .nil
      | cons => cases hl
    | cons u us ih =>
      intro qs hl hx
      cases qs with
      | nil => cases hl
      | cons q qs =>
        obtain ⟨x, p, h1, h2, h3⟩ := hx 0 (by simp)
        cases h1
        cases h2
        exact .cons h3 (ih qs (Nat.succ.inj hl) fun i hi => hx (i + 1) (Nat.succ_lt_succ hi))
  refine key 0 xs ps el fun i hi => ?_
  obtain ⟨j, p, hj, hp, x, hx, q⟩ := pr_get h i (by rw [List.length_range]; exact hi) (by omega)
  rw [List.getElem?_range hi] at hj
  cases hj
  exact ⟨x, p, hx, hp, q⟩
set_option hygiene false in
local macro_rules | `(tactic| walk_at "rd") => `(tactic| try simp only [L2.start, List.map_cons, List.map_nil, List.length_cons, List.length_nil, Nat.reduceAdd, Nat.reduceSub, Nat.reduceLT, Nat.reduceLeDiff, List.replicate_succ, List.replicate_zero, List.append_nil, List.nil_append, List.cons_append, List.set_cons_zero, List.set_cons_succ, List.getElem?_cons_zero, List.getElem?_cons_succ,
  Option.some.injEq, List.cons.injEq, and_true, true_and, and_assoc, reduceCtorEq, L2.V.int.injEq, L2.V.ref.injEq, L2.V.bl.injEq, L2.V.str.injEq, L2.V.ty.injEq, L2.HO.ins.injEq, L2.HO.lst.injEq, L2.HO.tup.injEq, L2.HO.dK.injEq, exists_eq_left', exists_eq_left, exists_eq_right, exists_eq', exists_eq, exists_and_left, exists_and_right, reduceIte, Bool.false_eq_true, Bool.not_true, Bool.not_false,
  L2.tSeq, L2.tIfS, L2.tRet, L2.tRetN, L2.tNext, L2.tAsg, L2.gName, L2.tVar, L2.tC, L2.tCons, L2.tNil, L2.tCB, L2.tOp, L2.tUn, L2.tTup, L2.tLst, L2.tB, L2.tOr, L2.tAnd, L2.tNot, L2.tAndV, L2.tOrV, L2.tNotV, L2.tIf, L2.tTest, L2.tChain, L2.rI, L2.rI0, L2.rU, L2.tDrop, L2.tNever, L2.tCall, L2.tMeth, L2.tMake, L2.rGcd, L2.tFld, L2.sFld, L2.sFldAug, Mx.sFldA, Mx.sFldAugA, L2.rAdd, L2.rSub, L2.rEq, L2.rNe, L2.tDGet, L2.tDIn, L2.tDNotIn, L2.sDPut,
  Mx.isi_int_bool, Mx.isi_int_int, Mx.isi_int_tuple, Mx.isi_int_list, Mx.isi_int_str, Mx.scal_int, Mx.scal_str, Mx.scal_bl, Mx.ofString_inj, Mx.ofString_beq, Mx.lk_cons, Mx.pf_nil, Mx.pf_cons, Mx.sz1, Mx.sz2, List.lookup_nil, String.reduceEq, decide_true, decide_false, decide_eq_true_eq, Int.natAbs_natCast, L2.upd_same, L2.upd_upd, L2.cxOf, L2.gSub, L2.tPar, L2.gCons, L2.gNil, L2.tSl, L2.tPart, L2.rSlL, L2.gStar1, L2.tKGet2, L2.tNoPart, L2.tM1])
set_option hygiene false in
local macro_rules | `(tactic| walk_at "rds") => `(tactic| try simp only [L2.start, List.map_cons, List.map_nil, List.length_cons, List.length_nil, Nat.reduceAdd, Nat.reduceSub, Nat.reduceLT, Nat.reduceLeDiff, List.replicate_succ, List.replicate_zero, List.append_nil, List.nil_append, List.cons_append, List.set_cons_zero, List.set_cons_succ, List.getElem?_cons_zero, List.getElem?_cons_succ,
  Option.some.injEq, List.cons.injEq, and_true, true_and, and_assoc, reduceCtorEq, L2.V.int.injEq, L2.V.ref.injEq, L2.V.bl.injEq, L2.V.str.injEq, L2.V.ty.injEq, L2.HO.ins.injEq, L2.HO.lst.injEq, L2.HO.tup.injEq, L2.HO.dK.injEq, exists_eq_left', exists_eq_left, exists_eq_right, exists_eq', exists_eq, exists_and_left, exists_and_right, reduceIte, Bool.false_eq_true, Bool.not_true, Bool.not_false,
  L2.tSeq, L2.tIfS, L2.tRet, L2.tRetN, L2.tNext, L2.tAsg, L2.gName, L2.tVar, L2.tC, L2.tCons, L2.tNil, L2.tCB, L2.tOp, L2.tUn, L2.tTup, L2.tLst, L2.tB, L2.tOr, L2.tAnd, L2.tNot, L2.tAndV, L2.tOrV, L2.tNotV, L2.tIf, L2.tTest, L2.tChain, L2.rI, L2.rI0, L2.rU, L2.tDrop, L2.tNever, L2.tCall, L2.tMeth, L2.tMake, L2.rGcd, L2.tFld, L2.sFld, L2.sFldAug, Mx.sFldA, Mx.sFldAugA, L2.rAdd, L2.rSub, L2.rEq, L2.rNe, L2.tDGet, L2.tDIn, L2.tDNotIn, L2.sDPut,
  Mx.isi_int_bool, Mx.isi_int_int, Mx.isi_int_tuple, Mx.isi_int_list, Mx.isi_int_str, Mx.scal_int, Mx.scal_str, Mx.scal_bl, Mx.ofString_inj, Mx.ofString_beq, Mx.lk_cons, Mx.pf_nil, Mx.pf_cons, Mx.sz1, Mx.sz2, List.lookup_nil, String.reduceEq, decide_true, decide_false, decide_eq_true_eq, Int.natAbs_natCast, L2.upd_same, L2.upd_upd, L2.cxOf, L2.gSub, L2.tPar, L2.gCons, L2.gNil, L2.tSl, L2.tPart, L2.rSlL, L2.gStar1, L2.tKGet2, L2.tNoPart, L2.tM1, *])

section
variable {P : Program} {w : World} {K : PySem.W.Frag} {mg : Str → Option Value} {base : Heap}
/-! ### written, read -/
/-- deeds at places -/
def DDs (K : PySem.W.Frag) (H : Hp) (ds : List DD) (ps : List Addr) : Prop := Paired (fun (d : DD) p => d.at K H p) ds ps
theorem DDs.st {F : List Addr} {H H' : Hp} {ds : List DD} {ps : List Addr} (h : DDs K H ds ps) (s : Stp F H H') : DDs K H' ds ps := pr_mapR (fun _ _ q => DD.at.st q s) h
theorem DDs.mem {H : Hp} {ds : List DD} {ps : List Addr} (h : DDs K H ds ps) {p : Addr} (hp : p ∈ ps) : ∃ d ∈ ds, d.at K H p := by
  obtain ⟨j, hj, rfl⟩ := List.mem_iff_getElem.mp hp
  have e := h.length
  obtain ⟨d, q, h1, h2, h3⟩ := pr_get h j (by omega) hj
  rw [List.getElem?_eq_getElem hj] at h2
  cases h2
  exact ⟨d, List.mem_of_getElem? h1, h3⟩
theorem pe_weak {X : Cx} {e : Expr} {t t' : TE} (h : PE X e t) (imp : ∀ σ H Q, t' σ H Q → t σ H Q) : PE X e t' := ⟨fun pins s σ H Q I q => h.run pins s σ H Q I (imp σ H Q q)⟩
def tRows (z : Str) : TE := fun σ H Q => σ[0]? = some (some (.str z)) ∧ z.length + 2 ≤ sizeLine ∧ ∀ H1 p, Stp [] H H1 → H1 p = some (.lst ((rowsOf z).map V.str)) → Q (.ref p) H1
theorem rows_weak (z : Str) (σ : L2.St) (H : Hp) (Q : VK) (h : tRows z σ H Q) : tIf (tTest (tOp rEq (tVar 0) (tC (.str "")))) (tLst tNil) (tM1 (fun x xs H Q => ∃ a b, x = .str a ∧ xs = [.str b] ∧ (b.length == 0) = false ∧ a.length + 2 ≤ sizeLine ∧ rNewStrs (Txt.split a b) H Q) (tVar 0) (tC (.str "\n"))) σ H Q := by
  obtain ⟨h0, h1, h2⟩ := h
  refine ⟨_, h0, rfl, _, rfl, ?_⟩
  by_cases he : z = Str.ofString ""
  · have er : rowsOf z = [] := by
      unfold rowsOf
      rw [if_pos (he.trans (by rfl))]
    rw [er] at h2
    rw [decide_eq_true (show V.str z = V.str (Str.ofString "") from by rw [he])]
    exact iteT ⟨Nat.zero_le _, fun p hp => h2 _ p (Stp.new hp) upd_same⟩
  · have er : rowsOf z = Txt.split z (Str.ofString "\n") := by
      unfold rowsOf
      rw [if_neg fun q => he (q.trans (by rfl))]
    rw [er] at h2
    rw [decide_eq_false (show ¬ V.str z = V.str (Str.ofString "") from fun q => he (by injection q))]
    refine iteF ⟨_, h0, ⟨_, rfl⟩, z, "\n", rfl, rfl, (by rw [len_tl]; show ((tl (Str.ofString "\n")).length == 0) = false; rw [tl_nl]; rfl), h1, fun p hp => h2 _ p (Stp.new hp) upd_same⟩
def sp_readV (K : PySem.W.Frag) : Sp := fun vs H Q _ => ∃ z : Str, vs = [.str z] ∧ z.length ≤ 1000000 ∧ (rowsOf z).length ≤ 300 ∧ (∀ y ∈ rowsOf z, y.length ≤ 99980 ∧ okD (rdRow y) = true) ∧
  ∀ H' D ps, Stp [] H H' → H D = none → H' D = some (.lst (ps.map V.ref)) → DDs K H' ((rowsOf z).map rdRow) ps → Q (.ref D) H'
theorem sc_read : FnScope ["text", "rows", "deeds", "number", "deed", "row"] ["text"] (defScope s_read) := ⟨rfl, rfl, rfl, by decide +kernel, rfl, by decide +kernel, by decide +kernel⟩
theorem ok_readV {f : Addr} {fd : FuncData} (F : Fun K "read" "read" s_read f fd) (B : Blt mg) {tm : Tok} (hM : mg "MOST_DEEDS" = some (.int 300 tm)) (GD : OwnF P w K mg base "deed_of" 2 ["row"] (sp_deed_of K)) (GI : OwnF P w K mg base "is_deed" 3 ["deed"] (sp_is_deedR K)) : FnOk P w K mg base CX0 4 f fd ["text"] (sp_readV K) := by
  refine F.ok sc_read (fun vs H Q E h => ?_) (fun cdv A outer s H vs Q E hr h => ?_)
  · obtain ⟨z, rfl, _⟩ := h
    rfl
  · obtain ⟨z, rfl, hz, hl, hk, k⟩ := h
    have nd := sc_read.nd
    have r2 := hr.mono (show 2 ≤ 3 by decide)
    refine ⟨_, pss_cons (ps_set (i := 1) nd rfl (.inl rfl) (pe_weak (pe_ifExp (pt_cmpR op_eq (pv 0) pe_str (nomark _)) (pe_lst pa_nil) (pe_split (pv 0) pe_str)) (rows_weak z)))
      (pss_cons (ps_setLc (i := 2) (own := [("row", 5)]) (te := tCall (sp_deed_of K) [] E0 (tCons (tVar 5) tNil)) rfl nd rfl rfl (sw_true rfl rfl rfl (by decide +kernel)) (pi_list (pv 1)) (blkOk_by (N := ["text", "rows", "deeds", "number", "deed", "row"]) (sc := defScope s_read) (by decide +kernel)) (fun _ _ _ _ _ => pg_name (i := 5) nd rfl (.inl rfl)) (fun _ _ _ _ _ => pts_nil) (fun _ _ _ _ _ => p_call GD r2 (pa_cons (pv 5) pa_nil)))
      (pss_cons (ps_for PassesOwn.never rfl (pi_enum (by rfl) B.enumerate (pa_cons (pv 2) pa_nil)) (pg_tup rfl (pgs_cons (pg_name (i := 3) nd rfl (.inl rfl)) (pgs_cons (pg_name (i := 4) nd rfl (.inl rfl)) pgs_nil))) (pss_one (ps_if (PW.pt (pw_or (pt_cmpR op_ge (pv 3) (pe_glob (v := .int 300) (by rfl) hM ⟨_, rfl⟩) (nomark _)) (pw_or1 (pt_not (pt_val (p_call GI hr (pa_cons (pv 4) pa_nil))))))) (pss_one ps_never) pss_nil)))
      (pss_one (ps_ret (pv 2))))), ?_⟩
    have hsl : (1000002 : Nat) ≤ sizeLine := by decide
    refine ⟨rfl, by omega, fun H1 p1 s1 h1 => ?_⟩
    walk_at "rd"
    refine lc_relLv (xs := (rowsOf z).map V.str) (R := fun H j y => ∃ p, y = .ref p ∧ ∃ d, ((rowsOf z).map rdRow)[j]? = some d ∧ d.at K H p) rfl h1 (by rw [List.length_map]; omega) (fun F' H2 H3 j y h s => ?_) (fun j x H2 hj s2 Q' q => ?_) (fun D H2 ys hD s2 h2 hp => ?_)
    · obtain ⟨p, e, d, h3, h4⟩ := h
      exact ⟨p, e, d, h3, h4.st s⟩
    · rw [List.getElem?_map] at hj
      obtain ⟨u, hu, rfl⟩ := Option.map_eq_some_iff.mp hj
      have hm := hk u (List.mem_of_getElem? hu)
      exact ⟨_, rfl, u, rfl, hm.1, fun H3 p s3 hp hd => q _ H3 ⟨p, rfl, _, by rw [List.getElem?_map, hu]; rfl, hd⟩ s3⟩
    obtain ⟨ps, rfl, hps⟩ := refs_of hp
    rw [List.length_map, ← List.length_map (f := rdRow)] at hps
    have hdd : DDs K H2 ((rowsOf z).map rdRow) ps := pr_of_ix _ hps
    have hlen := hdd.length
    rw [List.length_map] at hlen
    have s02 := s1.trans s2
    refine ⟨_, rfl, D, _, rfl, .inl (.inl h2), for_enum (K := K) (a := D) (xs := ps.map V.ref) (fun i σ H3 => ∃ v1 v2, σ = [some (.str z), some (.ref p1), some (.ref D), v1, v2, none] ∧ Stp [] H2 H3) ⟨_, _, rfl, Stp.refl⟩ (fun i σ H3 _ h => ?_) (fun i x σ H3 T hi h hT => ?_) (fun σ H3 h => ?_)⟩
    · obtain ⟨_, _, _, s3⟩ := h
      exact .inl (.inl (s3.keep _ _ h2 (by simp)))
    · obtain ⟨v1, v2, rfl, s3⟩ := h
      rw [List.getElem?_map] at hi
      obtain ⟨p, hn, rfl⟩ := Option.map_eq_some_iff.mp hi
      obtain ⟨d, hdm, hda⟩ := hdd.mem (List.mem_of_getElem? hn)
      obtain ⟨u, hu, rfl⟩ := List.mem_map.mp hdm
      have hok := (hk u hu).2
      have hil := (List.getElem?_eq_some_iff.mp hn).1
      have s4 := Stp.new (o := .tup [.int (i : Nat), .ref p]) hT
      refine ⟨T, _, rfl, .inl (.inl upd_same), rfl, ?_⟩
      walk_at "rd"
      rw [if_neg (show ¬ (300 : Int) ≤ (i : Int) by omega)]
      refine ⟨p, rdRow u, rfl, (hda.st s3).st s4, (okD_len hok).1, (okD_len hok).2, fun H5 s5 => ⟨_, rfl, ?_⟩⟩
      rw [hok]
      refine iteF ?_
      exact ((s3.trans s4).trans s5).sub (by simp)
    · obtain ⟨v1, v2, rfl, s3⟩ := h
      exact ⟨_, rfl, k H3 D ps ((s02.trans s3).sub (by simp)) (s1.free hD (by simp)) (s3.keep _ _ h2 (by simp)) (hdd.st s3)⟩
end
end Mx

namespace Mx
open PySem L2 TL
set_option hygiene false in
local macro_rules | `(tactic| walk_at "rd") => `(tactic| try simp only [L2.start, List.map_cons, List.map_nil, List.length_cons, List.length_nil, Nat.reduceAdd, Nat.reduceSub, Nat.reduceLT, Nat.reduceLeDiff, List.replicate_succ, List.replicate_zero, List.append_nil, List.nil_append, List.cons_append, List.set_cons_zero, List.set_cons_succ, List.getElem?_cons_zero, List.getElem?_cons_succ,
  Option.some.injEq, List.cons.injEq, and_true, true_and, and_assoc, reduceCtorEq, L2.V.int.injEq, L2.V.ref.injEq, L2.V.bl.injEq, L2.V.str.injEq, L2.V.ty.injEq, L2.HO.ins.injEq, L2.HO.lst.injEq, L2.HO.tup.injEq, L2.HO.dK.injEq, exists_eq_left', exists_eq_left, exists_eq_right, exists_eq', exists_eq, exists_and_left, exists_and_right, reduceIte, Bool.false_eq_true, Bool.not_true, Bool.not_false,
  L2.tSeq, L2.tIfS, L2.tRet, L2.tRetN, L2.tNext, L2.tAsg, L2.gName, L2.tVar, L2.tC, L2.tCons, L2.tNil, L2.tCB, L2.tOp, L2.tUn, L2.tTup, L2.tLst, L2.tB, L2.tOr, L2.tAnd, L2.tNot, L2.tAndV, L2.tOrV, L2.tNotV, L2.tIf, L2.tTest, L2.tChain, L2.rI, L2.rI0, L2.rU, L2.tDrop, L2.tNever, L2.tCall, L2.tMeth, L2.tMake, L2.rGcd, L2.tFld, L2.sFld, L2.sFldAug, Mx.sFldA, Mx.sFldAugA, L2.rAdd, L2.rSub, L2.rEq, L2.rNe, L2.tDGet, L2.tDIn, L2.tDNotIn, L2.sDPut,
  Mx.isi_int_bool, Mx.isi_int_int, Mx.isi_int_tuple, Mx.isi_int_list, Mx.isi_int_str, Mx.scal_int, Mx.scal_str, Mx.scal_bl, Mx.ofString_inj, Mx.ofString_beq, Mx.lk_cons, Mx.pf_nil, Mx.pf_cons, Mx.sz1, Mx.sz2, List.lookup_nil, String.reduceEq, decide_true, decide_false, decide_eq_true_eq, Int.natAbs_natCast, L2.upd_same, L2.upd_upd, L2.cxOf, L2.gSub, L2.tPar, L2.gCons, L2.gNil, L2.tSl, L2.tPart, L2.rSlL, L2.rSlT, L2.tNoPart, L2.tM1])
set_option hygiene false in
local macro_rules | `(tactic| walk_at "rds") => `(tactic| try simp only [L2.start, List.map_cons, List.map_nil, List.length_cons, List.length_nil, Nat.reduceAdd, Nat.reduceSub, Nat.reduceLT, Nat.reduceLeDiff, List.replicate_succ, List.replicate_zero, List.append_nil, List.nil_append, List.cons_append, List.set_cons_zero, List.set_cons_succ, List.getElem?_cons_zero, List.getElem?_cons_succ,
  Option.some.injEq, List.cons.injEq, and_true, true_and, and_assoc, reduceCtorEq, L2.V.int.injEq, L2.V.ref.injEq, L2.V.bl.injEq, L2.V.str.injEq, L2.V.ty.injEq, L2.HO.ins.injEq, L2.HO.lst.injEq, L2.HO.tup.injEq, L2.HO.dK.injEq, exists_eq_left', exists_eq_left, exists_eq_right, exists_eq', exists_eq, exists_and_left, exists_and_right, reduceIte, Bool.false_eq_true, Bool.not_true, Bool.not_false,
  L2.tSeq, L2.tIfS, L2.tRet, L2.tRetN, L2.tNext, L2.tAsg, L2.gName, L2.tVar, L2.tC, L2.tCons, L2.tNil, L2.tCB, L2.tOp, L2.tUn, L2.tTup, L2.tLst, L2.tB, L2.tOr, L2.tAnd, L2.tNot, L2.tAndV, L2.tOrV, L2.tNotV, L2.tIf, L2.tTest, L2.tChain, L2.rI, L2.rI0, L2.rU, L2.tDrop, L2.tNever, L2.tCall, L2.tMeth, L2.tMake, L2.rGcd, L2.tFld, L2.sFld, L2.sFldAug, Mx.sFldA, Mx.sFldAugA, L2.rAdd, L2.rSub, L2.rEq, L2.rNe, L2.tDGet, L2.tDIn, L2.tDNotIn, L2.sDPut,
  Mx.isi_int_bool, Mx.isi_int_int, Mx.isi_int_tuple, Mx.isi_int_list, Mx.isi_int_str, Mx.scal_int, Mx.scal_str, Mx.scal_bl, Mx.ofString_inj, Mx.ofString_beq, Mx.lk_cons, Mx.pf_nil, Mx.pf_cons, Mx.sz1, Mx.sz2, List.lookup_nil, String.reduceEq, decide_true, decide_false, decide_eq_true_eq, Int.natAbs_natCast, L2.upd_same, L2.upd_upd, L2.cxOf, L2.gSub, L2.tPar, L2.gCons, L2.gNil, L2.tSl, L2.tPart, L2.rSlL, L2.rSlT, L2.tNoPart, L2.tM1, *])

section
variable {P : Program} {w : World} {K : PySem.W.Frag} {mg : Str → Option Value} {base : Heap}
/-! ### the law's rows -/
theorem cut_1t (x : V) (xs : List V) : cutV (x :: xs) (some 1) none = xs := by rw [cut_1]; rfl
theorem not_whole (x : V) (xs : List V) : ¬ (HT.sIx (x :: xs).length 0 (some 1) = 0 ∧ HT.sIx (x :: xs).length (x :: xs).length none = (x :: xs).length) := by
  intro h
  have e : HT.sIx (x :: xs).length 0 (some 1) = 1 := by
    unfold HT.sIx
    simp
  rw [e] at h
  exact absurd h.1 (by decide)
abbrev NLt : List Str := ["_law_deed", "_law_found", "_law_part", "_law_some", "_law_one"]
def sp_law_text (K : PySem.W.Frag) : Sp := fun vs H Q _ => ∃ (a : Addr) (d : DD), vs = [.ref a] ∧ d.at K H a ∧ Good d ∧ ∀ H', Stp [] H H' → Q (.str (rowTxt d)) H'
theorem sc_law_text : FnScope NLt ["_law_deed"] (defScope s_law_text) := ⟨rfl, rfl, rfl, by decide +kernel, rfl, by decide +kernel, by decide +kernel⟩
/-- numbers with commas between -/
def tJn (K : PySem.W.Frag) (i j0 : Nat) : TE := fun σ H Q => ∃ (t : Addr) (xs : List Int), σ[j0]? = some (some (.ref t)) ∧ i < σ.length ∧ TupAt K H t (xs.map V.int) ∧ xs.length ≤ 32 ∧ (∀ i ∈ xs, -999 ≤ i ∧ i ≤ 999) ∧ ∀ H', Stp [] H H' → Q (.str (Txt.join "," (xs.map numS))) H'
theorem jn_weak (i j0 : Nat) (σ : L2.St) (H : Hp) (Q : VK) (h : tJn K i j0 σ H Q) : tM1 (fun x xs H Q => ∃ a p, ∃ ys : List Str, x = .str a ∧ xs = [.ref p] ∧ (SqL K H p (ys.map V.str) ∨ SqT K H p (ys.map V.str)) ∧
      (ys.map (·.length)).sum + ys.length * a.length ≤ 16777216 ∧ Q (.str (Txt.join a ys)) H) (tC (.str ",")) (tLc (iTup K (tVar j0)) (gName i) tYes (teStr i) [i]) σ H Q := by
  obtain ⟨t, xs, hj, hi, ht, hl, hx, k⟩ := h
  refine ⟨⟨_, rfl⟩, ?_⟩
  refine lc_tupYv (xs := xs.map V.int) (ys := xs.map fun i => V.str (numS i)) hj ht (by simp) (by rw [List.length_map]; omega) (fun j x y H1 hj hy s1 Q' q => ?_) (fun D H1 hD s1 h1 => ?_)
  · rw [List.getElem?_map] at hj hy
    obtain ⟨n, hn, rfl⟩ := Option.map_eq_some_iff.mp hj
    rw [hn] at hy
    cases hy
    have hm := hx n (List.mem_of_getElem? hn)
    refine ⟨_, ?_, .inl ⟨n, rfl, log_ok hm.1 hm.2, q H1 Stp.refl⟩⟩
    rw [List.getElem?_set_self (by simpa [wipe] using hi)]
  · refine ⟨_, D, xs.map numS, rfl, rfl, .inl (.inl (.inl (by rw [h1, List.map_map]; rfl))), ?_, k H1 s1⟩
    have a4 : ∀ p ∈ xs.map numS, p.length ≤ 4 := by
      intro p hp
      obtain ⟨i, hi, rfl⟩ := List.mem_map.mp hp
      rw [len_tl, tl_numS]
      exact numT_len (hx i hi).1 (hx i hi).2
    have := sum_len a4
    have h1 : (Str.ofString ",").length = 1 := by rw [len_tl, tl_com]; rfl
    rw [h1]
    rw [List.length_map] at this ⊢
    omega
/-- the text so far -/
def accT (d : DD) (i : Nat) : Str := ((d.rs.take i).map rvTxt).foldl (fun acc p => acc ++ Str.ofString " " ++ p) d.w
theorem accT_succ {d : DD} {i : Nat} {r : RV} (h : d.rs[i]? = some r) : accT d (i + 1) = accT d i ++ Str.ofString " " ++ rvTxt r := by
  unfold accT
  rw [List.take_add_one, h]
  simp
theorem accT_len {d : DD} (g : Good d) (i : Nat) : (accT d i).length ≤ 966 := by
  unfold accT
  rw [fold_join]
  refine Nat.le_trans (len_join (k := 160) (by rw [tl_sp]; decide) fun p hp => ?_) ?_
  · rcases List.mem_cons.mp hp with rfl | hp
    · exact ((row_free g).1 _ (by simp)).2
    · obtain ⟨r, hr, rfl⟩ := List.mem_map.mp hp
      exact (part_free g (List.mem_of_mem_take hr) (.inl rfl)).2
  · have := (w_ne g.mem).2.2
    rw [List.length_cons, List.length_map, List.length_take]
    show (min i d.rs.length + 1) * 161 ≤ 966
    omega
theorem accT_all (d : DD) : accT d d.rs.length = rowTxt d := by
  unfold accT
  rw [fold_join, List.take_length]
  rfl
theorem ok_law_text {f : Addr} {fd : FuncData} (F : Fun K "_law_text" "_law_text" s_law_text f fd) (B : Blt mg) : FnOk P w K mg base CX0 1 f fd ["_law_deed"] (sp_law_text K) := by
  refine F.ok sc_law_text (fun vs H Q E h => ?_) (fun cdv A outer s H vs Q E hr h => ?_)
  · obtain ⟨a, d, rfl, _⟩ := h
    rfl
  · obtain ⟨a, d, rfl, ⟨vs, ht, hp⟩, g, k⟩ := h
    have nd := sc_law_text.nd
    refine ⟨_, pss_cons (ps_set (i := 1) nd rfl (.inl rfl) (pe_ix ix_tup (pv 0) pe_int (fun _ _ => rfl)))
      (pss_cons (ps_for PassesOwn.never rfl (pi_tup (pe_slice sl_tup (pv 0) (po_some pe_int) po_none)) (pg_name (i := 2) nd rfl (.inl rfl))
        (pss_cons (ps_set (i := 3) nd rfl (.inl rfl) (pe_ifExp (pt_val (b_isi B (pv 2) B.tuple PyProof.Rows.boot_tuple)) (pv 2) (pe_tup (pa_cons (pv 2) pa_nil))))
        (pss_one (ps_set (i := 1) nd rfl (.inl rfl) (pe_op op_add_str (pe_op op_add_str (pv 1) pe_str) (pe_weak (pe_join pe_str (pe_lc (own := [("_law_one", 4)]) (te := teStr 4) rfl nd (pi_tup (pv 3)) (blkOk_by (N := NLt) (sc := defScope s_law_text) (by decide +kernel))
          (fun _ _ _ _ _ => pg_name (i := 4) nd rfl (.inl rfl)) (fun _ _ _ _ _ => pts_nil) (fun _ _ _ _ _ => pe_callTy call_strA (by rfl) B.str PyProof.Rows.boot_str (pa_cons (pv 4) pa_nil)))) (jn_weak (K := K) 4 3)))))))
      (pss_one (ps_ret (pv 1)))), ?_⟩
    have hlen := hp.length
    have h5 := (w_ne g.mem).2.2
    have hs2 : (10000 : Nat) ≤ sizeLine := by decide
    refine ⟨_, rfl, ixT_0 ht ⟨_, rfl, 1, rfl, a, _, rfl, ht.sq, not_whole _ _, fun p hp0 => ?_⟩⟩
    rw [cut_1t]
    have s1 := Stp.new (o := .tup vs) hp0
    have e1 : upd H p (.tup vs) p = some (.tup vs) := upd_same
    have hp1 := pr_mapR (fun _ _ q => RVat.st q s1) hp
    generalize upd H p (.tup vs) = H1 at *
    refine ⟨p, rfl, ⟨_, .inl (.inl e1)⟩, for_tup (K := K) (a := p) (xs := vs) (fun i σ H2 => ∃ v1 v2, σ = [some (.ref a), some (.str (accT d i)), v1, v2, none] ∧ Stp [] H1 H2) ⟨_, _, rfl, Stp.refl⟩ (fun i σ H2 _ h => ?_) (fun i x σ H2 hi h => ?_) (fun σ H2 h => ?_)⟩
    · obtain ⟨_, _, _, s2⟩ := h
      exact .inl (.inl (s2.keep _ _ e1 (by simp)))
    · obtain ⟨v1, v2, rfl, s2⟩ := h
      obtain ⟨hil, _⟩ := List.getElem?_eq_some_iff.mp hi
      obtain ⟨r, v, hr1, hv1, q1⟩ := pr_get hp1 i (by omega) hil
      rw [hv1] at hi
      cases hi
      have hrm := List.mem_of_getElem? hr1
      have hacc := accT_succ hr1
      have hl1 := accT_len g i
      have hl2 := accT_len g (i + 1)
      rw [hacc] at hl2
      have hlt : (accT d i ++ Str.ofString " ").length ≤ 966 := by
        rw [len_tl, tl_append, List.length_append] at hl2
        rw [len_tl]
        omega
      have hcom : (Str.ofString ",").length = 1 := by rw [len_tl, tl_com]; rfl
      have fin : ∀ (H3 : Hp) (o3 : Option V) (t : Addr) (xs : List Int), Stp [] H1 H3 → TupAt K H3 t (xs.map V.int) → xs.length ≤ 32 → (∀ i ∈ xs, -999 ≤ i ∧ i ≤ 999) → Txt.join "," (xs.map numS) = rvTxt r →
          (accT d i).length + (Str.ofString " ").length ≤ sizeLine ∧ tJn K 4 3 [some (.ref a), some (.str (accT d i)), o3, some (.ref t), none] H3 fun y H4 => ∃ j, y = .str j ∧ (accT d i ++ Str.ofString " ").length + j.length ≤ sizeLine ∧ accT d i ++ Str.ofString " " ++ j = accT d (i + 1) ∧ Stp [] H1 H4 := by
        intro H3 o3 t xs s3 h3 hl hx e
        have h1 : (Str.ofString " ").length = 1 := by rw [len_tl, tl_sp]; rfl
        refine ⟨by omega, t, xs, rfl, by show 4 < 5; decide, h3, hl, hx, fun H4 s4 => ⟨_, rfl, ?_, by rw [e, ← hacc], (s3.trans s4).sub (by simp)⟩⟩
        rw [e]
        rw [len_tl, tl_append, List.length_append, ← len_tl, ← len_tl] at hl2
        omega
      have one : ∀ n : Int, r = .inl (some n) → -999 ≤ n → n ≤ 999 → ∃ n : Int, x = .int n ∧ -999 ≤ n ∧ n ≤ 999 ∧ rvTxt r = numS n := fun n e h0 h1 => by
        subst e
        exact ⟨n, q1, h0, h1, rfl⟩
      have cs : (∃ n : Int, x = .int n ∧ -999 ≤ n ∧ n ≤ 999 ∧ rvTxt r = numS n) ∨ (∃ (t : Addr) (xs : List Int), x = .ref t ∧ TupAt K H1 t (xs.map V.int) ∧ xs.length ≤ 32 ∧ (∀ i ∈ xs, -999 ≤ i ∧ i ≤ 999) ∧ Txt.join "," (xs.map numS) = rvTxt r) := by
        rcases g.c with ⟨_, ns, e, hn⟩ | ⟨_, n, pl, xs, e, b1, b2, b3, b4⟩
        · rw [e] at hrm
          obtain ⟨n, hn2, e2⟩ := List.mem_map.mp hrm
          have := hn n hn2
          exact .inl (one n e2.symm (by omega) (by omega))
        · rw [e] at hrm
          simp only [List.mem_cons, List.not_mem_nil, or_false] at hrm
          rcases hrm with e2 | e2 | e2
          · exact .inl (one n e2 (by omega) (by omega))
          · exact .inl (one pl e2 (by omega) (by omega))
          · subst e2
            obtain ⟨t, rfl, htt⟩ := q1
            rw [List.map_map] at htt
            refine .inr ⟨t, xs, rfl, htt, b3.2, b4, ?_⟩
            show _ = Txt.join "," ((xs.map some).map fun o => numS (o.getD 0))
            rw [List.map_map]
            rfl
      rcases cs with ⟨n, rfl, n0, n1, e⟩ | ⟨t, xs, rfl, htt, xl, hx, e⟩
      · show tSeq _ _ _ _ _
        walk_at "rd"
        intro p3 hp3
        have s3 := Stp.new (o := .tup [.int n]) hp3
        exact fin _ _ p3 [n] ((s2.trans s3).sub (by simp)) (.inl upd_same) (by show 1 ≤ 32; decide) (fun i hi => by rw [List.mem_singleton.mp hi]; exact ⟨n0, n1⟩) e.symm
      · show tSeq _ _ _ _ _
        walk_at "rd"
        refine isi_tupA (htt.st s2) (b := true) (by decide +kernel) ?_
        walk_at "rd"
        exact fin _ _ t xs s2 (htt.st s2) xl hx e
    · obtain ⟨v1, v2, rfl, s2⟩ := h
      rw [← hlen, accT_all]
      exact ⟨_, rfl, k H2 ((s1.trans s2).sub (by simp))⟩
end
end Mx

namespace Mx
open PySem L2 TL
/-! ### deeds drawn -/
def manyT : List (Str × Int) := [("add", 5), ("parcel", 2), ("end", 2), ("lead", 3), ("hush", 1), ("wake", 1), ("beat", 0)]
def manyK : List (Key × V) := manyT.map fun p => ((Sum.inr p.1 : Key), V.int p.2)
theorem many_merge : mergeK [] manyK = manyK := by
  simp [manyK, manyT, mergeK, putK, ofString_inj]
theorem many_val {z : Str} {m : Int} (h : (z, m) ∈ manyT) : valV (mergeK [] manyK) (Sum.inr z : Key) = some (.int m) := by
  rw [many_merge]
  unfold manyT at h
  simp only [List.mem_cons, List.not_mem_nil, or_false, Prod.mk.injEq] at h
  rcases h with ⟨rfl, rfl⟩ | ⟨rfl, rfl⟩ | ⟨rfl, rfl⟩ | ⟨rfl, rfl⟩ | ⟨rfl, rfl⟩ | ⟨rfl, rfl⟩ | ⟨rfl, rfl⟩ <;> simp [manyK, manyT, valV, ofString_inj]
def tMany : TE := fun σ H Q => ∃ z m, σ[4]? = some (some (.str z)) ∧ (z, m) ∈ manyT ∧ ∀ H', Stp [] H H' → Q (.int m) H'
theorem many_weak (σ : L2.St) (H : Hp) (Q : VK) (h : tMany σ H Q) : tDGet (tDisp [(tC (.str "add"), tC (.int 5)), (tC (.str "parcel"), tC (.int 2)), (tC (.str "end"), tC (.int 2)), (tC (.str "lead"), tC (.int 3)), (tC (.str "hush"), tC (.int 1)), (tC (.str "wake"), tC (.int 1)), (tC (.str "beat"), tC (.int 0))]) (tVar 4) σ H Q := by
  obtain ⟨z, m, hz, hm, k⟩ := h
  intro p hp
  refine ⟨upd_same, manyK, rfl, by show 7 ≤ 15; decide, ?_⟩
  have s1 := Stp.new (o := .dK []) hp
  have s2 := Stp.put (o := .dK (mergeK [] manyK)) (upd_same (H := H) (a := p) (o := .dK [])) (fun xs z => nomatch z)
  have g : upd (upd H p (.dK [])) p (.dK (mergeK [] manyK)) p = some (.dK (mergeK [] manyK)) := upd_same
  refine ⟨_, hz, p, _, rfl, ?_, k _ ((s1.trans s2).subN fun b hb => .inr (by simp at hb; rw [hb]; exact hp))⟩
  have := DGet.k (k := (Sum.inr z : Key)) g
  rw [many_val hm] at this
  exact this
def wordsL : List V := [.str "add", .str "parcel", .str "parcel", .str "end", .str "lead", .str "hush", .str "wake", .str "beat"]
theorem word_at {c : Int} (h0 : 0 ≤ c) (h1 : c < 8) : ∃ z m, atI wordsL c = some (.str z) ∧ (z, m) ∈ manyT := by
  have : c = 0 ∨ c = 1 ∨ c = 2 ∨ c = 3 ∨ c = 4 ∨ c = 5 ∨ c = 6 ∨ c = 7 := by omega
  rcases this with rfl | rfl | rfl | rfl | rfl | rfl | rfl | rfl
  · exact ⟨"add", 5, rfl, by simp [manyT]⟩
  · exact ⟨"parcel", 2, rfl, by simp [manyT]⟩
  · exact ⟨"parcel", 2, rfl, by simp [manyT]⟩
  · exact ⟨"end", 2, rfl, by simp [manyT]⟩
  · exact ⟨"lead", 3, rfl, by simp [manyT]⟩
  · exact ⟨"hush", 1, rfl, by simp [manyT]⟩
  · exact ⟨"wake", 1, rfl, by simp [manyT]⟩
  · exact ⟨"beat", 0, rfl, by simp [manyT]⟩
theorem many_parts {z : Str} {m : Int} (h : (z, m) ∈ manyT) : (z ≠ "parcel" ∧ 0 ≤ m ∧ m ≤ 5 ∧ (z, m.toNat) ∈ partsT) ∨ (z = "parcel" ∧ m = 2) := by
  unfold manyT at h
  simp only [List.mem_cons, List.not_mem_nil, or_false, Prod.mk.injEq] at h
  rcases h with ⟨rfl, rfl⟩ | ⟨rfl, rfl⟩ | ⟨rfl, rfl⟩ | ⟨rfl, rfl⟩ | ⟨rfl, rfl⟩ | ⟨rfl, rfl⟩ | ⟨rfl, rfl⟩
  · exact .inl ⟨by decide, by decide, by decide, by unfold partsT; simp [ofString_inj]⟩
  · exact .inr ⟨rfl, rfl⟩
  · exact .inl ⟨by decide, by decide, by decide, by unfold partsT; simp [ofString_inj]⟩
  · exact .inl ⟨by decide, by decide, by decide, by unfold partsT; simp [ofString_inj]⟩
  · exact .inl ⟨by decide, by decide, by decide, by unfold partsT; simp [ofString_inj]⟩
  · exact .inl ⟨by decide, by decide, by decide, by unfold partsT; simp [ofString_inj]⟩
  · exact .inl ⟨by decide, by decide, by decide, by unfold partsT; simp [ofString_inj]⟩
/-- a deed of drawn numbers can be -/
theorem ok_plainD {z : Str} {ns : List Int} (hw : z ≠ "parcel") (hm : (z, ns.length) ∈ partsT) (hn : ∀ v ∈ ns, 0 ≤ v ∧ v ≤ 999) : okD ⟨z, ns.map fun i => (Sum.inl (some i) : RV)⟩ = true := by
  unfold okD
  rw [decide_eq_true (by rw [List.length_map]; exact hm), Bool.true_and, if_neg hw, List.all_map]
  refine List.all_eq_true.mpr fun v hv => ?_
  show okN 0 999 (some v) = true
  exact decide_eq_true (hn v hv)
theorem ok_parD {n pl : Int} {xs : List Int} (h1 : 0 ≤ n ∧ n ≤ 999) (h2 : 0 ≤ pl ∧ pl ≤ 999) (h3 : 1 ≤ xs.length ∧ xs.length ≤ 32) (h4 : ∀ v ∈ xs, -999 ≤ v ∧ v ≤ 999) : okD ⟨"parcel", [.inl (some n), .inl (some pl), .inr (xs.map some)]⟩ = true := by
  unfold okD
  rw [decide_eq_true (by show (_, 3) ∈ partsT; unfold partsT; simp), Bool.true_and, if_pos rfl]
  show ((decide (0 ≤ n ∧ n ≤ 999) && (decide (0 ≤ pl ∧ pl ≤ 999) && true)) && (decide (1 ≤ (xs.map some).length ∧ (xs.map some).length ≤ 32) && (xs.map some).all (okN (-999) 999))) = true
  rw [decide_eq_true h1, decide_eq_true h2, decide_eq_true (by rw [List.length_map]; exact h3), List.all_map]
  show (xs.all (okN (-999) 999 ∘ some)) = true
  refine List.all_eq_true.mpr fun v hv => ?_
  show okN (-999) 999 (some v) = true
  exact decide_eq_true (h4 v hv)
/-- t + u, tuples, the left not empty -/
def rCatA (K : PySem.W.Frag) : R2 := fun x y H Q => ∃ a b xs ys, x = .ref a ∧ y = .ref b ∧ TupAt K H a xs ∧ TupAt K H b ys ∧ xs ≠ [] ∧ xs.length + ys.length ≤ sizeLine ∧ ∀ t H', TupAt K H' t (xs ++ ys) → Stp [] H H' → Q (.ref t) H'
theorem op_catA {X : Cx} : OpR X (binaryOp .Add) (rCatA X.K) := by
  intro pins s σ H x y v u Q I rx ry h
  obtain ⟨a, b, xs, ys, e1, e2, ha, hb, hx, hl, k⟩ := h
  refine op_catT pins s σ H x y v u Q I rx ry ⟨a, b, xs, ys, e1, e2, ha.sq, hb.sq, hx, hl, fun e => ?_, fun _ p hp => k p _ (.inl upd_same) (Stp.new hp)⟩
  refine k a H ?_ Stp.refl
  rw [e, List.append_nil]
  exact ha
set_option hygiene false in
local macro_rules | `(tactic| walk_at "rd") => `(tactic| try simp only [L2.start, List.map_cons, List.map_nil, List.length_cons, List.length_nil, Nat.reduceAdd, Nat.reduceSub, Nat.reduceLT, Nat.reduceLeDiff, List.replicate_succ, List.replicate_zero, List.append_nil, List.nil_append, List.cons_append, List.set_cons_zero, List.set_cons_succ, List.getElem?_cons_zero, List.getElem?_cons_succ,
  Option.some.injEq, List.cons.injEq, and_true, true_and, and_assoc, reduceCtorEq, L2.V.int.injEq, L2.V.ref.injEq, L2.V.bl.injEq, L2.V.str.injEq, L2.V.ty.injEq, L2.HO.ins.injEq, L2.HO.lst.injEq, L2.HO.tup.injEq, L2.HO.dK.injEq, exists_eq_left', exists_eq_left, exists_eq_right, exists_eq', exists_eq, exists_and_left, exists_and_right, reduceIte, Bool.false_eq_true, Bool.not_true, Bool.not_false,
  L2.tSeq, L2.tIfS, L2.tRet, L2.tRetN, L2.tNext, L2.tAsg, L2.gName, L2.tVar, L2.tC, L2.tCons, L2.tNil, L2.tCB, L2.tOp, L2.tUn, L2.tTup, L2.tLst, L2.tB, L2.tOr, L2.tAnd, L2.tNot, L2.tAndV, L2.tOrV, L2.tNotV, L2.tIf, L2.tTest, L2.tChain, L2.rI, L2.rI0, L2.rU, L2.tDrop, L2.tNever, L2.tCall, L2.tMeth, L2.tMake, L2.rGcd, L2.tFld, L2.sFld, L2.sFldAug, Mx.sFldA, Mx.sFldAugA, L2.rAdd, L2.rSub, L2.rEq, L2.rNe, L2.tDGet, L2.tDIn, L2.tDNotIn, L2.sDPut,
  Mx.isi_int_bool, Mx.isi_int_int, Mx.isi_int_tuple, Mx.isi_int_list, Mx.isi_int_str, Mx.scal_int, Mx.scal_str, Mx.scal_bl, Mx.ofString_inj, Mx.ofString_beq, Mx.lk_cons, Mx.pf_nil, Mx.pf_cons, Mx.sz1, Mx.sz2, List.lookup_nil, String.reduceEq, decide_true, decide_false, decide_eq_true_eq, Int.natAbs_natCast, L2.upd_same, L2.upd_upd, L2.cxOf, L2.gSub, L2.tPar, L2.gCons, L2.gNil, L2.tSl, L2.tPart, L2.rSlL, L2.rSlT, L2.tNoPart, L2.tM1])
set_option hygiene false in
local macro_rules | `(tactic| walk_at "rds") => `(tactic| try simp only [L2.start, List.map_cons, List.map_nil, List.length_cons, List.length_nil, Nat.reduceAdd, Nat.reduceSub, Nat.reduceLT, Nat.reduceLeDiff, List.replicate_succ, List.replicate_zero, List.append_nil, List.nil_append, List.cons_append, List.set_cons_zero, List.set_cons_succ, List.getElem?_cons_zero, List.getElem?_cons_succ,
  Option.some.injEq, List.cons.injEq, and_true, true_and, and_assoc, reduceCtorEq, L2.V.int.injEq, L2.V.ref.injEq, L2.V.bl.injEq, L2.V.str.injEq, L2.V.ty.injEq, L2.HO.ins.injEq, L2.HO.lst.injEq, L2.HO.tup.injEq, L2.HO.dK.injEq, exists_eq_left', exists_eq_left, exists_eq_right, exists_eq', exists_eq, exists_and_left, exists_and_right, reduceIte, Bool.false_eq_true, Bool.not_true, Bool.not_false,
  L2.tSeq, L2.tIfS, L2.tRet, L2.tRetN, L2.tNext, L2.tAsg, L2.gName, L2.tVar, L2.tC, L2.tCons, L2.tNil, L2.tCB, L2.tOp, L2.tUn, L2.tTup, L2.tLst, L2.tB, L2.tOr, L2.tAnd, L2.tNot, L2.tAndV, L2.tOrV, L2.tNotV, L2.tIf, L2.tTest, L2.tChain, L2.rI, L2.rI0, L2.rU, L2.tDrop, L2.tNever, L2.tCall, L2.tMeth, L2.tMake, L2.rGcd, L2.tFld, L2.sFld, L2.sFldAug, Mx.sFldA, Mx.sFldAugA, L2.rAdd, L2.rSub, L2.rEq, L2.rNe, L2.tDGet, L2.tDIn, L2.tDNotIn, L2.sDPut,
  Mx.isi_int_bool, Mx.isi_int_int, Mx.isi_int_tuple, Mx.isi_int_list, Mx.isi_int_str, Mx.scal_int, Mx.scal_str, Mx.scal_bl, Mx.ofString_inj, Mx.ofString_beq, Mx.lk_cons, Mx.pf_nil, Mx.pf_cons, Mx.sz1, Mx.sz2, List.lookup_nil, String.reduceEq, decide_true, decide_false, decide_eq_true_eq, Int.natAbs_natCast, L2.upd_same, L2.upd_upd, L2.cxOf, L2.gSub, L2.tPar, L2.gCons, L2.gNil, L2.tSl, L2.tPart, L2.rSlL, L2.rSlT, L2.tNoPart, L2.tM1, *])

section
variable {P : Program} {w : World} {K : PySem.W.Frag} {mg : Str → Option Value} {base : Heap}
abbrev NSt : List Str := ["_law_row", "_law_most", "_law_found", "_law_k", "_law_word_here", "_law_many", "_law_deed", "_law_size", "_law_part"]
def sp_law_steps (K : PySem.W.Frag) : Sp := fun vs H Q _ => ∃ (r sc : Addr) (ns : List Int) (most : Int), vs = [.ref r, .int most] ∧ 0 ≤ most ∧ most ≤ 300 ∧ RowAt K H r sc ns ∧
  ∀ H' F ds ps, RowAt K H' r sc ns → Stp [r] H H' → H F = none → H' F = some (.lst (ps.map V.ref)) → (ps.length : Int) ≤ most → DDs K H' ds ps → (∀ d ∈ ds, okD d = true) → Q (.ref F) H'
theorem sc_law_steps : FnScope NSt ["_law_row", "_law_most"] (defScope s_law_steps) := ⟨rfl, rfl, rfl, by decide +kernel, rfl, by decide +kernel, by decide +kernel⟩
abbrev teTk (K : PySem.W.Frag) (n : Int) : TE := tCall (sp_taken K) [] E0 (tCons (tVar 0) (tCons (tC (.int n)) tNil))
abbrev te2 (K : PySem.W.Frag) (a b : Int) : TE := tOp (rIxL K) (tLst (tCons (tC (.int a)) (tCons (tC (.int b)) tNil))) (teTk K 2)
abbrev teAny (K : PySem.W.Frag) : TE := tCall (sp_taken K) [] E0 (tCons (tVar 0) (tCons (te2 K 7 1000) tNil))
theorem pr_ints {H : Hp} : ∀ xs : List Int, Paired (RVat K H) (xs.map fun i => (Sum.inl (some i) : RV)) (xs.map V.int)
  | [] => .nil
  | _ :: r => .cons rfl (pr_ints r)
theorem te2_ok {σ : L2.St} {H : Hp} {Q : VK} {r sc : Addr} {ns : List Int} (a b : Int) (hσ : σ[0]? = some (some (.ref r))) (hR : RowAt K H r sc ns) (q : ∀ v H', (v = a ∨ v = b) → RowAt K H' r sc ns → Stp [r] H H' → Q (.int v) H') : te2 K a b σ H Q := by
  refine ⟨by show 2 ≤ sizeLine; decide, fun p hp => ⟨_, hσ, r, sc, ns, 2, rfl, row_new hR hp, by decide, fun c H2 c0 c1 hR2 s2 => ?_⟩⟩
  have s1 := Stp.new (o := .lst [.int a, .int b]) hp
  have e := s2.keep _ _ (upd_same (H := H) (a := p) (o := .lst [.int a, .int b])) (by simpa using row_ne hR hp)
  have s12 : Stp [r] H H2 := (s1.trans s2).sub (by simp)
  rcases (show c = 0 ∨ c = 1 by omega) with rfl | rfl
  · exact ixL (.inl (.inl e)) (x := .int a) rfl (q a H2 (.inl rfl) hR2 s12)
  · exact ixL (.inl (.inl e)) (x := .int b) rfl (q b H2 (.inr rfl) hR2 s12)
theorem ok_law_steps {f : Addr} {fd : FuncData} (F : Fun K "_law_steps" "_law_steps" s_law_steps f fd) (B : Blt mg) (GT : OwnF P w K mg base "_law_taken" 1 ["_law_row", "_law_many"] (sp_taken K)) (GN : OwnF P w K mg base "_law_number" 2 ["_law_row"] (sp_drawn K (-999) 999)) : FnOk P w K mg base CX0 3 f fd ["_law_row", "_law_most"] (sp_law_steps K) := by
  refine F.ok sc_law_steps (fun vs H Q E h => ?_) (fun cdv A outer s H vs Q E hr h => ?_)
  · obtain ⟨r, sc, ns, m, rfl, _⟩ := h
    rfl
  · obtain ⟨r, sc, ns, most, rfl, m0, m1, hR, k⟩ := h
    have nd := sc_law_steps.nd
    have hu := hu_of hr
    have r1 := hr.mono (show 1 ≤ 2 by decide)
    refine ⟨_, pss_cons (ps_set (i := 2) nd rfl (.inl rfl) (pe_lst pa_nil))
      (pss_cons (ps_for PassesOwn.never rfl (pi_range1 (by rfl) B.range (pa_cons (p_call GT r1 (pa_cons (pv 0) (pa_cons (pe_op op_add (pv 1) pe_int) pa_nil))) pa_nil)) (pg_name (i := 3) nd rfl (.inl rfl))
        (pss_cons (ps_set (i := 4) nd rfl (.inl rfl) (pe_ix ix_list (pe_lst (pa_cons pe_str (pa_cons pe_str (pa_cons pe_str (pa_cons pe_str (pa_cons pe_str (pa_cons pe_str (pa_cons pe_str (pa_cons pe_str pa_nil))))))))) (p_call GT r1 (pa_cons (pv 0) (pa_cons pe_int pa_nil))) (fun _ _ => rfl)))
        (pss_cons (ps_set (i := 5) nd rfl (.inl rfl) (pe_weak (pe_dget hu (pe_disp (pps_cons pe_str pe_int (pps_cons pe_str pe_int (pps_cons pe_str pe_int (pps_cons pe_str pe_int (pps_cons pe_str pe_int (pps_cons pe_str pe_int (pps_cons pe_str pe_int pps_nil))))))) (by rfl) (by rfl) (by simp) (by decide)) (pv 4) (fun _ _ => rfl)) many_weak))
        (pss_cons (ps_set (i := 6) nd rfl (.inl rfl) (pe_op op_catA (pe_tup (pa_cons (pv 4) pa_nil)) (pe_callTy call_tuple_of (by rfl) B.tuple PyProof.Rows.boot_tuple (pa_cons (pe_lc (own := [("_law_part", 8)]) (te := teAny K) rfl nd (pi_range1 (by rfl) B.range (pa_cons (pv 5) pa_nil)) (blkOk_by (N := NSt) (sc := defScope s_law_steps) (by decide +kernel)) (fun _ _ _ _ _ => pg_name (i := 8) nd rfl (.inl rfl)) (fun _ _ _ _ _ => pts_nil) (fun _ _ _ _ _ => p_call GT r1 (pa_cons (pv 0) (pa_cons (pe_ix ix_list (pe_lst (pa_cons pe_int (pa_cons pe_int pa_nil))) (p_call GT r1 (pa_cons (pv 0) (pa_cons pe_int pa_nil))) (fun _ _ => rfl)) pa_nil)))) pa_nil))))
        (pss_cons (ps_if (pt_cmpR op_eq (pv 4) pe_str (nomark _))
          (pss_cons (ps_set (i := 7) nd rfl (.inl rfl) (pe_op op_add pe_int (p_call GT r1 (pa_cons (pv 0) (pa_cons (pe_ix ix_list (pe_lst (pa_cons pe_int (pa_cons pe_int pa_nil))) (p_call GT r1 (pa_cons (pv 0) (pa_cons pe_int pa_nil))) (fun _ _ => rfl)) pa_nil)))))
          (pss_one (ps_set (i := 6) nd rfl (.inl rfl) (pe_op op_catA (pv 6) (pe_tup (pa_cons (pe_callTy call_tuple_of (by rfl) B.tuple PyProof.Rows.boot_tuple (pa_cons (pe_lc (own := [("_law_part", 8)]) (te := tCall (sp_drawn K (-999) 999) [] E0 (tCons (tVar 0) tNil)) rfl nd (pi_range1 (by rfl) B.range (pa_cons (pv 7) pa_nil)) (blkOk_by (N := NSt) (sc := defScope s_law_steps) (by decide +kernel)) (fun _ _ _ _ _ => pg_name (i := 8) nd rfl (.inl rfl)) (fun _ _ _ _ _ => pts_nil) (fun _ _ _ _ _ => p_call GN hr (pa_cons (pv 0) pa_nil))) pa_nil)) pa_nil)))))) pss_nil)
        (pss_one (ps_expr (pe_bm PySem.F.plainAttrs_list PySem.F.slot_list_append PySem.F.type_list_append mt_append (pv 2) (pa_cons (pv 6) pa_nil)))))))))
      (pss_one (ps_ret (pv 2)))), ?_⟩
    walk_at "rd"
    refine ⟨Nat.zero_le _, fun F hF => ?_⟩
    have s1 := Stp.new (o := .lst []) hF
    have e1 : upd H F (.lst []) F = some (.lst (([] : List Addr).map V.ref)) := upd_same
    have hR1 := hR.st0 s1
    have hFr : F ≠ r := row_ne hR hF
    generalize upd H F (.lst []) = H1 at *
    refine ⟨_, rfl, _, rfl, most, 1, rfl, rfl, r, sc, ns, most + 1, rfl, hR1, by omega, fun c H2 c0 c1 hR2 s2 => ⟨c, rfl, by omega, by omega, ?_⟩⟩
    refine for_range (lo := 0) (n := c.toNat) (fun i σ H3 => ∃ v3 v4 v5 v6 v7 ps ds, σ = [some (.ref r), some (.int most), some (.ref F), v3, v4, v5, v6, v7, none] ∧ RowAt K H3 r sc ns ∧ Stp [r, F] H1 H3 ∧ H3 F = some (.lst (ps.map V.ref)) ∧ ps.length = i ∧ DDs K H3 ds ps ∧ ∀ d ∈ ds, okD d = true)
      ⟨_, _, _, _, _, [], [], rfl, hR2, s2.sub (by simp), s2.keep _ _ e1 (by simpa using hFr), rfl, .nil, by simp⟩ (fun i σ H3 hi h => ?_) (fun σ H3 h => ?_)
    · obtain ⟨v3, v4, v5, v6, v7, ps, ds, rfl, hR3, s3, e3, hpl, hdd, hok⟩ := h
      show tSeq _ _ _ _ _
      walk_at "rd"
      refine ⟨by show 8 ≤ sizeLine; decide, fun p hp => ?_⟩
      have s4 := Stp.new (o := .lst wordsL) hp
      have e4 : upd H3 p (.lst wordsL) p = some (.lst wordsL) := upd_same
      have hR4 := hR3.st0 s4
      have hpr : p ≠ r := row_ne hR3 hp
      have e34 := s4.keep _ _ e3 (by simp)
      have hd4 := hdd.st s4
      show sp_taken K [.ref r, .int 8] (upd H3 p (.lst wordsL)) _ _
      generalize upd H3 p (.lst wordsL) = H4 at *
      refine ⟨r, sc, ns, 8, rfl, hR4, by decide, fun cw H5 w0 w1 hR5 s5 => ?_⟩
      obtain ⟨z, m, hat, hm⟩ := word_at w0 w1
      refine ixL (.inl (.inl (s5.keep _ _ e4 (by simpa using hpr)))) hat ⟨z, m, rfl, hm, fun H6 s6 => ?_⟩
      intro t1 ht1
      have e35 := s5.keep _ _ e34 (by simpa using hFr)
      have s36 := s4.trans (s5.trans s6)
      have e36 := s6.keep _ _ e35 (by simp)
      have hR6 := hR5.st0 s6
      have s7 := Stp.new (o := .tup [.str z]) ht1
      have e7 : upd H6 t1 (.tup [.str z]) t1 = some (.tup [.str z]) := upd_same
      have e37 := s7.keep _ _ e36 (by simp)
      have hR7 := hR6.st0 s7
      generalize upd H6 t1 (.tup [.str z]) = H7 at *
      have hmb := many_parts hm
      have hm5 : 0 ≤ m ∧ m ≤ 5 := by rcases hmb with ⟨_, a, b, _⟩ | ⟨_, a⟩ <;> omega
      refine lc_rowI (n := m.toNat) 0 999 hR7 (by omega) (fun R q => ⟨_, rfl, by rw [show ((m.toNat : Nat) : Int) = m by omega] at q; exact q⟩) (fun x H8 hR8 Q' q => ?_) (fun D H8 xs hD hR8 s8 h8 hxl hx => ?_)
      · refine ⟨_, rfl, te2_ok 7 1000 rfl hR8 fun v H9 hv hR9 s9 => ⟨r, sc, ns, v, rfl, hR9, by omega, fun u H10 u0 u1 hR10 s10 => q u H10 u0 (by omega) hR10 ((s9.trans s10).sub (by simp))⟩⟩
      · refine ⟨D, rfl, _, .inl ⟨.inl (.inl h8), fun l hl => ?_⟩⟩
        have s9 := Stp.new (o := .tup (xs.map V.int)) hl
        have hR9 := hR8.st0 s9
        have h9 : upd H8 l (.tup (xs.map V.int)) l = some (.tup (xs.map V.int)) := upd_same
        have s89 := s8.trans s9
        have e39 := s89.keep _ _ e37 (by simpa using hFr)
        have hd9 := hd4.st ((s5.trans s6).trans (s7.trans s89))
        have e79 := s89.tup _ _ e7
        have s19 : Stp [r, F] H1 (upd H8 l (.tup (xs.map V.int))) := ((s3.trans s36).trans (s7.trans s89)).sub (by simp)
        generalize upd H8 l (.tup (xs.map V.int)) = H9 at *
        have hx5 : (xs.map V.int).length ≤ 5 := by rw [List.length_map, hxl]; omega
        refine ⟨t1, l, [.str z], xs.map V.int, rfl, rfl, .inl e79, .inl h9, by simp, Nat.le_trans (show 1 + (xs.map V.int).length ≤ 6 by omega) (by decide), fun t H10 ht s10 => ?_⟩
        have hR10 := hR9.st0 s10
        have e310 := s10.keep _ _ e39 (by simp)
        have hd10 := hd9.st s10
        have s110 : Stp [r, F] H1 H10 := (s19.trans s10).sub (by simp)
        have fin : ∀ (t' : Addr) (H11 : Hp) (d : DD) (o7 : Option V), Stp [r] H10 H11 → RowAt K H11 r sc ns → d.at K H11 t' → okD d = true → tBM K "list" rAppend (tVar 2) (tCons (tVar 6) tNil) [some (.ref r), some (.int most), some (.ref F), some (.int (0 + (i : Nat))), some (.str z), some (.int m), some (.ref t'), o7, none] H11 fun x H12 => RowAt K H12 r sc ns ∧ Stp [r, F] H1 H12 ∧ ∃ ps', H12 F = some (.lst (ps'.map V.ref)) ∧ ps'.length = i + 1 ∧ ∃ ds', DDs K H12 ds' ps' ∧ ∀ d ∈ ds', okD d = true := by
          intro t' H11 d o7 s11 hR11 hd' hk'
          have e311 := s11.keep _ _ e310 (by simpa using hFr)
          refine ⟨_, rfl, .inl ⟨rfl, _, .inl (.inl e311)⟩, _, rfl, F, _, _, rfl, rfl, e311, ?_, ?_⟩
          · rw [List.length_map]
            exact Nat.lt_of_le_of_lt (show ps.length ≤ 300 by omega) (by decide)
          · have sP := Stp.put (o := .lst (ps.map V.ref ++ [.ref t'])) e311 (fun xs z => nomatch z)
            refine ⟨row_mv hR hR11 sP (by simpa using hFr.symm) ?_, ((s110.trans s11).trans sP).sub (by simp), ps ++ [t'], by rw [upd_same, List.map_append]; rfl, by rw [List.length_append, hpl]; rfl, ds ++ [d], (((hd10.st s11).st sP).snoc (hd'.st sP)), fun x hx => ?_⟩
            · refine (s1.trans ((s110.trans s11).trans sP)).subN fun b hb => ?_
              simp only [List.append_assoc, List.nil_append, List.cons_append, List.mem_cons, List.not_mem_nil, or_false] at hb
              have hb' : b = r ∨ b = F := by
                rcases hb with e | e | e | e
                · exact .inl e
                · exact .inr e
                · exact .inl e
                · exact .inr e
              rcases hb' with rfl | rfl
              · exact .inl (by simp)
              · exact .inr hF
            · rcases List.mem_append.mp hx with hx | hx
              · exact hok x hx
              · rw [List.mem_singleton.mp hx]; exact hk'
        refine ⟨rfl, ?_⟩
        rcases hmb with ⟨hw, _, _, hpt⟩ | ⟨rfl, rfl⟩
        · rw [if_neg (fun q => hw (by injection q))]
          refine fin t H10 ⟨z, xs.map fun i => .inl (some i)⟩ v7 (Stp.refl.sub (by simp)) hR10 ⟨xs.map V.int, ht, ?_⟩ (ok_plainD hw (by rw [hxl]; exact hpt) hx)
          exact pr_ints xs
        · rw [if_pos rfl]
          intro p11 hp11
          have hR11 := row_new (o := .lst [.int 4, .int 32]) hR10 hp11
          have s11 := Stp.new (o := .lst [.int 4, .int 32]) hp11
          have e11 : upd H10 p11 (.lst [.int 4, .int 32]) p11 = some (.lst [.int 4, .int 32]) := upd_same
          have hpr11 := row_ne hR10 hp11
          generalize upd H10 p11 (.lst [.int 4, .int 32]) = H11 at *
          refine ⟨r, sc, ns, 2, rfl, hR11, by decide, fun c2 H12 c20 c21 hR12 s12 => ?_⟩
          have e12 := s12.keep _ _ e11 (by simpa using hpr11)
          obtain ⟨v, hv, hat2⟩ : ∃ v : Int, (v = 4 ∨ v = 32) ∧ atI [V.int 4, V.int 32] c2 = some (.int v) := by
            rcases (show c2 = 0 ∨ c2 = 1 by omega) with rfl | rfl
            · exact ⟨4, .inl rfl, rfl⟩
            · exact ⟨32, .inr rfl, rfl⟩
          refine ixL (.inl (.inl e12)) hat2 ⟨r, sc, ns, v, rfl, hR12, by omega, fun u H13 u0 u1 hR13 s13 => ⟨_, rfl, ?_⟩⟩
          refine lc_rowI (n := (1 + u).toNat) (-999) 999 hR13 (by omega) (fun R q => ⟨_, rfl, by rw [show (((1 + u).toNat : Nat) : Int) = 1 + u by omega] at q; exact q⟩) (fun x H14 hR14 Q' q => ?_) (fun D2 H14 ys hD2 hR14 s14 h14 hyl hy => ?_)
          · exact ⟨_, rfl, r, sc, ns, rfl, hR14, q⟩
          · have s114 : Stp [r] H10 H14 := (s11.trans (s12.trans (s13.trans s14))).sub (by simp)
            refine ⟨D2, rfl, _, .inl ⟨.inl (.inl h14), fun l2 hl2 p3 hp3 => ?_⟩⟩
            have s15 := Stp.new (o := .tup (ys.map V.int)) hl2
            have h15 : upd H14 l2 (.tup (ys.map V.int)) l2 = some (.tup (ys.map V.int)) := upd_same
            have hR15 := hR14.st0 s15
            generalize upd H14 l2 (.tup (ys.map V.int)) = H15 at *
            have s16 := Stp.new (o := .tup [.ref l2]) hp3
            have h16 : upd H15 p3 (.tup [.ref l2]) p3 = some (.tup [.ref l2]) := upd_same
            have h156 := s16.tup _ _ h15
            have hR16 := hR15.st0 s16
            generalize upd H15 p3 (.tup [.ref l2]) = H16 at *
            have s116 : Stp [r] H10 H16 := (s114.trans (s15.trans s16)).sub (by simp)
            obtain ⟨n, pl, rfl⟩ : ∃ a b, xs = [a, b] := by
              match xs, hxl with
              | [a, b], _ => exact ⟨a, b, rfl⟩
            refine ⟨t, p3, _, [.ref l2], rfl, rfl, ht.st s116, .inl h16, by simp, (by show 3 + 1 ≤ sizeLine; decide), fun t2 H17 ht2 s17 => ?_⟩
            refine fin t2 H17 ⟨"parcel", [.inl (some n), .inl (some pl), .inr (ys.map some)]⟩ _ ((s116.trans s17).sub (by simp)) (hR16.st0 s17) ⟨[.int n, .int pl, .ref l2], ht2, .cons rfl (.cons rfl (.cons ⟨l2, rfl, ?_⟩ .nil))⟩ (ok_parD (hx n (by simp)) (hx pl (by simp)) (by omega) hy)
            rw [List.map_map]
            exact .inl (s17.tup _ _ h156)
    · obtain ⟨v3, v4, v5, v6, v7, ps, ds, rfl, hR3, s3, e3, hpl, hdd, hok⟩ := h
      exact ⟨_, rfl, k H3 F ds ps hR3 ((s1.trans s3).subN fun b hb => by
        simp at hb
        rcases hb with rfl | rfl
        · exact .inl (by simp)
        · exact .inr hF) hF e3 (by omega) hdd hok⟩
end
end Mx

namespace PySem
namespace MxX
open PySem.W PySem.Calls PyProof.Rows PySem.HandSPX
/-! ### own exceptions that hand a text to super().__init__ and keep a number -/
structure Ps where
  a1 : Pos
  a2 : Pos
  q1 : Pos
  q2 : Pos
  q3 : Pos
  q4 : Pos
  q5 : Pos
  q6 : Pos
  q7 : Pos
  q8 : Pos
  q9 : Pos
  q10 : Pos
  q11 : Pos
  q12 : Pos
  q13 : Pos
  q14 : Pos
def parA (f : Str) (p : Ps) : Arguments := { posonlyargs := [], args := [{ arg := "self", annotation := none, pos := p.a1 }, { arg := f, annotation := none, pos := p.a2 }], vararg := none, kwonlyargs := [], kw_defaults := [], kwarg := none, defaults := [] }
def joinE (f pre post : Str) (p : Ps) : Expr := .JoinedStr [.Constant (.str pre) 0 p.q4, .FormattedValue (.Name f p.q5) (-1) none p.q6, .Constant (.str post) 0 p.q7] p.q8
def bodyA (f pre post : Str) (p : Ps) : List Stmt := [.Expr (.Call (.Attribute (.Call (.Name "super" p.q1) [] [] p.q2) "__init__" p.q3) [joinE f pre post p] [] p.q9) p.q10, .Assign [.Attribute (.Name "self" p.q11) f p.q12] (.Name f p.q13) p.q14]
def scoA (f : Str) : Scope := { kind := .function, names := [(Str.ofString "self", .local), (f, .local), (Str.ofString "__class__", .free), (Str.ofString "super", .globalImplicit)], isGenerator := false, isCoroutine := false, more := [] }
section
variable {prog : Program} {w : World} {A : Around} {E : Value → Shared → Prop} {h : Heap} {g : Array GenState} {d : Drawn} {t : Nat} {os : OsState}
variable {nm q : Str} {C N : Addr} {bs bm : List Value} {hdct : Bool} {sn : List Str} {sub : List Value} {ab : Bool} {col : Option Bool} {dd : Option Addr} {k0 k1 k2 k3 k5 : Option Value}
theorem call_wrapper {u x t0 : Addr} {rest : List Value} {Q : Value → Shared → Prop} (hC : h.get? C = some (excClassObj nm q C N bs bm hdct sn sub ab col dd k0 k1 k2 k3 k5 "ValueError.__new__")) (hx : h.get? x = some (excO C t0))
    (hu : h.get? u = some (kxs_mw "ValueError.__init__" x)) (hz : rest.length ≤ sizeLine)
    (hq : ∀ h' t1, (∀ b o, b ≠ x → h.get? b = some o → h'.get? b = some o) → h'.get? x = some (excO C t1) → Q .none ⟨h', g, d, t, os⟩) : wpAny (model prog w) A (call (.ref u) rest) Q E ⟨h, g, d, t, os⟩ := by
  refine wpAny_call (codeAny_of_tree ?_)
  show wpAny _ A.in1 (callAny (.ref u) ⟨rest, []⟩) _ _ _
  unfold callAny
  refine wpAny_bind (wpAny_load hu ?_)
  have c1 : (Value.type "method-wrapper" == Value.type "method" || Value.type "method-wrapper" == Value.type "builtin_function_or_method" || Value.type "method-wrapper" == Value.type "method-wrapper") = true := by decide
  simp only [kxs_mw, c1, if_true]
  refine KFB.if_so (by decide) ?_
  refine wpAny_bind (check_bound_init F.excBase_ValueError.toExcCallFacts hC hx rfl ?_)
  refine wpAny_bind (wpAny_pure (wpAny_pure ?_))
  refine ⟨plainId_quiet F.excBase_ValueError.init.plain _, codeAny_builtin F.excBase_ValueError.initEntry ?_⟩
  exact exc_init_tree (cls := .ref C) (t0 := t0) (dv := none) (c2 := .none) (c3 := .none) (b4 := .bool false) hx hz fun h' k e _ => hq h' _ k e
end
/-- a method's call with one argument, where the code stands -/
theorem at_method {M : Model} {A : Around} {c : Code} {E : Value → Shared → Prop} {s : Shared} {env : Env} {o e : Expr} {name : Str} {apos pos : Pos} {Q : Value → Shared → Prop} (hline : (apos.endLine == pos.line) = true) (hst : starEach [e] env = [(false, eval e env)])
    (h : wpAt M A c (attributeBase o name env (eval o env)) (fun ov s₁ => wpAny M A (getMethod ov name (do return (← importBound o env).getD true)) (fun fx s₂ => wpAny M A (callWith pos fx.1 fx.2 (backTo pos (starEach [e] env)) []) Q E s₂) E s₁) E s) :
    wpAt M A c (eval (.Call (.Attribute o name apos) [e] [] pos) env) Q E s := by
  rw [arm_eval_Call]
  refine wpAt_bind (ks_wpAt_mono h (fun ov s₁ h₁ => wpAt_of_wpAny (wpAny_bind (wpAny_standAt ?_))) fun _ _ x => x)
  have hform : methodCallForm ([e].length + ([] : List Keyword).length) (backTo pos (starEach [e] env)) (backToKw pos (keywordEach [] env)) = true := by rw [hst]; rfl
  unfold methodCall
  rw [hform]
  refine wpAny_bind (wpAny_holding (wpAny_mono h₁ (fun fx s₂ h₂ => ?_) fun _ _ x => x))
  have hp : methodCallPos true o env apos pos = pure pos := by
    unfold methodCallPos
    rw [hline]
    rfl
  obtain ⟨f, first⟩ := fx
  dsimp only
  rw [hp]
  exact wpAny_bind (wpAny_pure h₂)
end MxX
end PySem

namespace PySem
namespace MxX
open PySem.W PySem.Calls PyProof.Rows PySem.HandSPX
/-- what the written part says of the class at C, of its __init__ at fI -/
structure NumN (prog : Program) (K : Frag) (C fI : Addr) (qual pre post : Str) : Prop where
  cls : ∃ nm q N bs bm sn sub ab col dd k0 k1 k2 k3 k5, K.lookup C = some (excClassObj nm q C N bs bm true sn sub ab col dd k0 k1 k2 k3 k5 "ValueError.__new__") ∧ refsVE bm = true
  sa : findIn K (.ref C) "__setattr__" = some (some (.builtin "object.__setattr__"))
  ga : findIn K (.ref C) "__getattribute__" = some (some (.builtin "BaseException.__getattribute__"))
  gg : findIn K (.ref C) "__getattr__" = some none
  noN : findIn K (.ref C) "number" = some none
  iC : findIn K (.ref C) "__init__" = some (some (.ref fI))
  tC : typeIn K (.ref fI) = some (.type "function")
  kC : keepIn K (.ref C) = true
  exC : subIn K (.ref C) (.type "BaseException") = some true
  tyC : typeIn K (.ref C) = some (.type "type")
  hdC : hasDictIn K C = true
  subV : subIn K (.ref C) (.type "ValueError") = some true
  mro : mroIn K C (.ref C) = some true
  sin : ks_superIn K C C "__init__" = some (some (.builtin "ValueError.__init__"))
  opq : nsIn K cStatics "thirdparty.any" = some none
  top : (prog.main.scope.names.lookup ("super" : Str)).isSome = false
  fn : ∃ (oc : Value) (od : Option Addr) (doc pm : Value) (an : Option Addr) (cda : Addr) (ct : Value) (osl : Array (Option Value)) (p : Ps) (cc : Addr) (cl : Value) (cld : Option Addr) (csl : Array (Option Value)) (ccl : Value) (cdd : Option Addr) (vs : Array Value) (ccs : Array (Option Value)) (file : Str) (tf : Tok),
    K.lookup fI = some ⟨oc, od, .func (ksFn "__init__" qual (parA "number" p) (bodyA "number" pre post p) (scoA "number") .none .none doc pm an (.ref cda) ct cc), osl⟩ ∧ codeIn K (.ref cda) qual = true ∧
    K.lookup cc = some ⟨cl, cld, .cell (some (.ref C)), csl⟩ ∧ K.lookup cda = some ⟨ccl, cdd, .fields vs, ccs⟩ ∧ vs[2]? = some (.str file tf) ∧ ((prog.main.file : Str) == file) = true ∧ (p.q3.endLine == p.q9.line) = true
/-- what __init__ leaves of a fresh exception at x -/
structure MadeN (h h' : Heap) (x C dx t1 : Addr) (v : Value) : Prop where
  keep : ∀ b o, b ≠ x → h.get? b = some o → h'.get? b = some o
  obj : h'.get? x = some { cls := .ref C, dict := some dx, data := .fields #[.ref t1, .none, .none, .none, .bool false, .none] }
  dbig : h.objs.size ≤ dx
  dne : dx ≠ x
  ns : h'.Ns1 dx (fun y => if y = "number" then some v else none)
section
variable {prog : Program} {w : World} {A : Around} {R : Result → Shared → Prop} {s : Shared} {K : Frag} {mg mb : Str → Option Value} {C fI : Addr} {qual pre post : Str}
theorem initN (T : NumN prog K C fI qual pre post) {x t0 : Addr} {n : Int} {tk : Tok} (X : K.In s.heap) (G : s.heap.Ns mainGlobals mg) (hm : mg "super" = none) (G2 : s.heap.Ns builtinsNs mb) (hm2 : mb "super" = some (.type "super")) (hlim : s.heap.NoLimit)
    (hx : s.heap.get? x = some (excO C t0)) (hnx : K.lookup x = none) (hn : n.natAbs.log2 < 1920) (hl1 : pre.length ≤ 100) (hl2 : post.length ≤ 100) (hl3 : (Str.ofString (toString n)).length ≤ 10000) (hroom : A.depth < recursionLimit)
    (hq : ∀ h' tk' dx t1, MadeN s.heap h' x C dx t1 (.int n tk) → R (.ok (.ret .none)) { s with heap := h', toks := tk' }) :
    codeAny (model prog w) A (.call (.ref fI) ⟨[.ref x, .int n tk], []⟩) R s := by
  obtain ⟨oc, od, doc, pm, an, cda, ct, osl, p, cc, cl, cld, csl, ccl, cdd, vs, ccs, file, tf, ho, hcd, hcell, hcode, hvs, hfile, hline⟩ := T.fn
  obtain ⟨nm, q, N, bs, bm, sn, sub, ab, col, dd, k0, k1, k2, k3, k5, hC, hbm⟩ := T.cls
  have hcl : clsIn K C = some { name := nm, bases := bs, mro := .ref C :: bm, ns := N, qualname := q, hasDict := true, slotNames := sn, subclasses := sub, abstract := ab, collection := col, hasDel := false } := by unfold clsIn; rw [hC] <;> rfl
  refine ks_codeAny_call_defAt (fd := ksFn "__init__" qual (parA "number" p) (bodyA "number" pre post p) (scoA "number") .none .none doc pm an (.ref cda) ct cc) (body := bodyA "number" pre post p) (binds := [("self", .ref x), ("number", .int n tk)]) hroom (X _ _ ho) rfl hlim (codeRec_of X hcd) rfl (BindsTo.of_eq (by first | rfl | with_unfolding_all rfl)) (show ∀ y ∈ (scoA "number").names, y.2 ≠ .cell by decide +kernel) (locs (scope := scoA "number") rfl) (fun h1 hns kk => ?_) rfl rfl rfl
  have X1 : K.In h1 := X.keeps kk
  have hx1 := kk _ _ hx
  have hL : s.heap.objs.size ≠ x := Nat.ne_of_gt (Heap.lt_size hx)
  obtain ⟨hp, g0, d0, t0', os0⟩ := s
  refine ks_wpAt_execs_cons (ks_wpAt_Expr_any (at_method hline rfl ?_))
  have hD1 := X1 _ _ hC
  refine ks_wpAt_super_base (f := fI) (cc := cda) rfl rfl (by decide) rfl (X1 _ _ ho) rfl rfl rfl (X1 _ _ hcode) rfl hvs hfile T.top ?_
  refine ks_loadName_global rfl rfl (loadGlobal_builtin (G.keeps kk) hm (G2.keeps kk) hm2 ⟨rfl, ?_⟩)
  refine wpAny_loadName_free rfl rfl rfl ⟨_, X1 _ _ hcell, rfl⟩ ?_
  refine wpAny_loadName_local (v := .ref x) rfl rfl hns (by first | rfl | decide) ?_
  refine ks_wpAny_isType_cls hD1 rfl ⟨rfl, ?_⟩
  refine ks_wpAny_call_super hD1 rfl hx1 rfl (fun c e => nomatch e) (looks_mroIn X1 T.mro) (fun h2 hso k2 => ?_)
  have X2 : K.In h2 := X1.keeps k2
  have hx2 := k2 _ _ hx1
  have I2 : InstAt h2 x (excO C t0) C none := ⟨hx2, rfl, rfl, trivial⟩
  have hsin := T.sin
  unfold ks_superIn at hsin
  rw [hcl] at hsin
  refine kxs_getMethod kxs_ValueError hso (looks_opaque X2 T.opq) (l₀ := .ref C :: bm) (fun A Q E s k q => wpAny_bind ((looks_clsIn X2 hcl) A _ E s k (wpAny_pure q))) rfl X2 hsin (I2.type.andThen (looks_subIn X2 T.subV)) (ks_ne X2 I2 hcl) (by decide) ?_
  have hu : (h2.push (kxs_mw "ValueError.__init__" x)).get? h2.objs.size = some (kxs_mw "ValueError.__init__" x) := Heap.get?_push_size _ rfl
  have k3 : ∀ b o, h2.get? b = some o → (h2.push (kxs_mw "ValueError.__init__" x)).get? b = some o := fun b o e => Heap.get?_push_of_some _ e
  generalize h2.push (kxs_mw "ValueError.__init__" x) = h3 at *
  have hx3 := k3 _ _ hx2
  have hC3 := k3 _ _ (k2 _ _ hD1)
  have hns3 : h3.Ns hp.objs.size (fun y => ([("self", Value.ref x), ("number", Value.int n tk)] : List (Str × Value)).reverse.lookup y) := by
    obtain ⟨oL, es, ep, e1, r⟩ := hns
    exact ⟨oL, es, ep, k3 _ _ (k2 _ _ e1), r⟩
  have hsl : (16777216 : Nat) ≤ sizeLine := by rw [sizeLine_eq]; exact Nat.le_refl _
  have la : ∀ a b : Str, (a ++ b).length = a.length + b.length := fun a b => strLen_append a b
  refine kxs_callWith (i := "ValueError.__init__") (x := x) rfl (Calls.evalArgs_plain (Calls.spliced_cons ?_))
  show wpAny _ _ (eval (joinE "number" pre post p) _) _ _ _
  refine JoinedStr_many (joinParts_cons (Calls.Constant_str ?_))
  refine ⟨by rw [la]; show 0 + pre.length ≤ _; omega, joinParts_cons (FormattedValue_plain (wpAny_Name (wpAny_loadName_local (v := .int n tk) rfl rfl hns3 (by first | rfl | decide) (formatField_int_small hn ?_)) (by decide)))⟩
  refine ⟨by rw [la, la]; show 0 + pre.length + _ ≤ _; omega, joinParts_cons (Calls.Constant_str ⟨by rw [la, la, la]; show 0 + pre.length + _ + _ ≤ _; omega, joinParts_nil ?_ (by rw [la, la, la]; show 0 + pre.length + _ + _ ≤ _; omega)⟩)⟩
  refine Calls.spliced_nil ⟨hu, ?_⟩
  refine call_wrapper hC3 hx3 hu (by show 1 ≤ sizeLine; omega) (fun h4 t1 k4 hx4 => ?_)
  have hns4 : h4.Ns hp.objs.size (fun y => ([("self", Value.ref x), ("number", Value.int n tk)] : List (Str × Value)).reverse.lookup y) := by
    obtain ⟨oL, es, ep, e1, r⟩ := hns3
    exact ⟨oL, es, ep, k4 _ _ hL e1, r⟩
  have X4 : K.In h4 := fun a o e => k4 a o (fun z => by rw [z, hnx] at e; cases e) (k3 _ _ (X2 a o e))
  refine ks_wpAt_execs_cons (ks_wpAt_Assign_Attr (wpAt_of_wpAny (wpAny_Name (wpAny_loadName_local (v := .int n tk) rfl rfl hns4 (by first | rfl | decide) (wpAny_Name (wpAny_loadName_local (v := .ref x) rfl rfl hns4 (by first | rfl | decide) ?_) (by decide))) (by decide))))
  refine set_plain X4 (ox := excO C t1) (od := none) ⟨hx4, rfl, rfl, trivial⟩ T.sa ?_
  refine exc_osa X4 hx4 hcl (show refsVE (.ref C :: bm) = true from hbm) rfl T.noN (fun h5 tk5 dx k5 dn dne hx5 hn5 => ?_)
  refine wpAt_of_wpAny (wpAny_execs_nil (hq h5 _ dx t1 ⟨fun b o hb e => k5 b o hb (k4 b o hb (k3 b o (k2 b o (kk b o e)))), hx5, ?_, dne, hn5⟩))
  have z := Heap.lt_size (show h4.get? hp.objs.size = some _ from hns4.choose_spec.choose_spec.choose_spec.1)
  exact Nat.le_trans (Nat.le_of_lt z) (show h4.objs.size ≤ dx from dn)
end
end MxX
end PySem
namespace PySem
namespace MxX
open PySem.W PySem.Calls PyProof.Rows PySem.HandSPX
/-- what the written part says of the class at C, of its __init__ at fI -/
structure NumR (prog : Program) (K : Frag) (C fI : Addr) (qual pre post : Str) : Prop where
  cls : ∃ nm q N bs bm sn sub ab col dd k0 k1 k2 k3 k5, K.lookup C = some (excClassObj nm q C N bs bm true sn sub ab col dd k0 k1 k2 k3 k5 "ValueError.__new__") ∧ refsVE bm = true
  sa : findIn K (.ref C) "__setattr__" = some (some (.builtin "object.__setattr__"))
  ga : findIn K (.ref C) "__getattribute__" = some (some (.builtin "BaseException.__getattribute__"))
  gg : findIn K (.ref C) "__getattr__" = some none
  noN : findIn K (.ref C) "row" = some none
  iC : findIn K (.ref C) "__init__" = some (some (.ref fI))
  tC : typeIn K (.ref fI) = some (.type "function")
  kC : keepIn K (.ref C) = true
  exC : subIn K (.ref C) (.type "BaseException") = some true
  tyC : typeIn K (.ref C) = some (.type "type")
  hdC : hasDictIn K C = true
  subV : subIn K (.ref C) (.type "ValueError") = some true
  mro : mroIn K C (.ref C) = some true
  sin : ks_superIn K C C "__init__" = some (some (.builtin "ValueError.__init__"))
  opq : nsIn K cStatics "thirdparty.any" = some none
  top : (prog.main.scope.names.lookup ("super" : Str)).isSome = false
  fn : ∃ (oc : Value) (od : Option Addr) (doc pm : Value) (an : Option Addr) (cda : Addr) (ct : Value) (osl : Array (Option Value)) (p : Ps) (cc : Addr) (cl : Value) (cld : Option Addr) (csl : Array (Option Value)) (ccl : Value) (cdd : Option Addr) (vs : Array Value) (ccs : Array (Option Value)) (file : Str) (tf : Tok),
    K.lookup fI = some ⟨oc, od, .func (ksFn "__init__" qual (parA "row" p) (bodyA "row" pre post p) (scoA "row") .none .none doc pm an (.ref cda) ct cc), osl⟩ ∧ codeIn K (.ref cda) qual = true ∧
    K.lookup cc = some ⟨cl, cld, .cell (some (.ref C)), csl⟩ ∧ K.lookup cda = some ⟨ccl, cdd, .fields vs, ccs⟩ ∧ vs[2]? = some (.str file tf) ∧ ((prog.main.file : Str) == file) = true ∧ (p.q3.endLine == p.q9.line) = true
/-- what __init__ leaves of a fresh exception at x -/
structure MadeR (h h' : Heap) (x C dx t1 : Addr) (v : Value) : Prop where
  keep : ∀ b o, b ≠ x → h.get? b = some o → h'.get? b = some o
  obj : h'.get? x = some { cls := .ref C, dict := some dx, data := .fields #[.ref t1, .none, .none, .none, .bool false, .none] }
  dbig : h.objs.size ≤ dx
  dne : dx ≠ x
  ns : h'.Ns1 dx (fun y => if y = "row" then some v else none)
section
variable {prog : Program} {w : World} {A : Around} {R : Result → Shared → Prop} {s : Shared} {K : Frag} {mg mb : Str → Option Value} {C fI : Addr} {qual pre post : Str}
theorem initR (T : NumR prog K C fI qual pre post) {x t0 : Addr} {n : Int} {tk : Tok} (X : K.In s.heap) (G : s.heap.Ns mainGlobals mg) (hm : mg "super" = none) (G2 : s.heap.Ns builtinsNs mb) (hm2 : mb "super" = some (.type "super")) (hlim : s.heap.NoLimit)
    (hx : s.heap.get? x = some (excO C t0)) (hnx : K.lookup x = none) (hn : n.natAbs.log2 < 1920) (hl1 : pre.length ≤ 100) (hl2 : post.length ≤ 100) (hl3 : (Str.ofString (toString n)).length ≤ 10000) (hroom : A.depth < recursionLimit)
    (hq : ∀ h' tk' dx t1, MadeR s.heap h' x C dx t1 (.int n tk) → R (.ok (.ret .none)) { s with heap := h', toks := tk' }) :
    codeAny (model prog w) A (.call (.ref fI) ⟨[.ref x, .int n tk], []⟩) R s := by
  obtain ⟨oc, od, doc, pm, an, cda, ct, osl, p, cc, cl, cld, csl, ccl, cdd, vs, ccs, file, tf, ho, hcd, hcell, hcode, hvs, hfile, hline⟩ := T.fn
  obtain ⟨nm, q, N, bs, bm, sn, sub, ab, col, dd, k0, k1, k2, k3, k5, hC, hbm⟩ := T.cls
  have hcl : clsIn K C = some { name := nm, bases := bs, mro := .ref C :: bm, ns := N, qualname := q, hasDict := true, slotNames := sn, subclasses := sub, abstract := ab, collection := col, hasDel := false } := by unfold clsIn; rw [hC] <;> rfl
  refine ks_codeAny_call_defAt (fd := ksFn "__init__" qual (parA "row" p) (bodyA "row" pre post p) (scoA "row") .none .none doc pm an (.ref cda) ct cc) (body := bodyA "row" pre post p) (binds := [("self", .ref x), ("row", .int n tk)]) hroom (X _ _ ho) rfl hlim (codeRec_of X hcd) rfl (BindsTo.of_eq (by first | rfl | with_unfolding_all rfl)) (show ∀ y ∈ (scoA "row").names, y.2 ≠ .cell by decide +kernel) (locs (scope := scoA "row") rfl) (fun h1 hns kk => ?_) rfl rfl rfl
  have X1 : K.In h1 := X.keeps kk
  have hx1 := kk _ _ hx
  have hL : s.heap.objs.size ≠ x := Nat.ne_of_gt (Heap.lt_size hx)
  obtain ⟨hp, g0, d0, t0', os0⟩ := s
  refine ks_wpAt_execs_cons (ks_wpAt_Expr_any (at_method hline rfl ?_))
  have hD1 := X1 _ _ hC
  refine ks_wpAt_super_base (f := fI) (cc := cda) rfl rfl (by decide) rfl (X1 _ _ ho) rfl rfl rfl (X1 _ _ hcode) rfl hvs hfile T.top ?_
  refine ks_loadName_global rfl rfl (loadGlobal_builtin (G.keeps kk) hm (G2.keeps kk) hm2 ⟨rfl, ?_⟩)
  refine wpAny_loadName_free rfl rfl rfl ⟨_, X1 _ _ hcell, rfl⟩ ?_
  refine wpAny_loadName_local (v := .ref x) rfl rfl hns (by first | rfl | decide) ?_
  refine ks_wpAny_isType_cls hD1 rfl ⟨rfl, ?_⟩
  refine ks_wpAny_call_super hD1 rfl hx1 rfl (fun c e => nomatch e) (looks_mroIn X1 T.mro) (fun h2 hso k2 => ?_)
  have X2 : K.In h2 := X1.keeps k2
  have hx2 := k2 _ _ hx1
  have I2 : InstAt h2 x (excO C t0) C none := ⟨hx2, rfl, rfl, trivial⟩
  have hsin := T.sin
  unfold ks_superIn at hsin
  rw [hcl] at hsin
  refine kxs_getMethod kxs_ValueError hso (looks_opaque X2 T.opq) (l₀ := .ref C :: bm) (fun A Q E s k q => wpAny_bind ((looks_clsIn X2 hcl) A _ E s k (wpAny_pure q))) rfl X2 hsin (I2.type.andThen (looks_subIn X2 T.subV)) (ks_ne X2 I2 hcl) (by decide) ?_
  have hu : (h2.push (kxs_mw "ValueError.__init__" x)).get? h2.objs.size = some (kxs_mw "ValueError.__init__" x) := Heap.get?_push_size _ rfl
  have k3 : ∀ b o, h2.get? b = some o → (h2.push (kxs_mw "ValueError.__init__" x)).get? b = some o := fun b o e => Heap.get?_push_of_some _ e
  generalize h2.push (kxs_mw "ValueError.__init__" x) = h3 at *
  have hx3 := k3 _ _ hx2
  have hC3 := k3 _ _ (k2 _ _ hD1)
  have hns3 : h3.Ns hp.objs.size (fun y => ([("self", Value.ref x), ("row", Value.int n tk)] : List (Str × Value)).reverse.lookup y) := by
    obtain ⟨oL, es, ep, e1, r⟩ := hns
    exact ⟨oL, es, ep, k3 _ _ (k2 _ _ e1), r⟩
  have hsl : (16777216 : Nat) ≤ sizeLine := by rw [sizeLine_eq]; exact Nat.le_refl _
  have la : ∀ a b : Str, (a ++ b).length = a.length + b.length := fun a b => strLen_append a b
  refine kxs_callWith (i := "ValueError.__init__") (x := x) rfl (Calls.evalArgs_plain (Calls.spliced_cons ?_))
  show wpAny _ _ (eval (joinE "row" pre post p) _) _ _ _
  refine JoinedStr_many (joinParts_cons (Calls.Constant_str ?_))
  refine ⟨by rw [la]; show 0 + pre.length ≤ _; omega, joinParts_cons (FormattedValue_plain (wpAny_Name (wpAny_loadName_local (v := .int n tk) rfl rfl hns3 (by first | rfl | decide) (formatField_int_small hn ?_)) (by decide)))⟩
  refine ⟨by rw [la, la]; show 0 + pre.length + _ ≤ _; omega, joinParts_cons (Calls.Constant_str ⟨by rw [la, la, la]; show 0 + pre.length + _ + _ ≤ _; omega, joinParts_nil ?_ (by rw [la, la, la]; show 0 + pre.length + _ + _ ≤ _; omega)⟩)⟩
  refine Calls.spliced_nil ⟨hu, ?_⟩
  refine call_wrapper hC3 hx3 hu (by show 1 ≤ sizeLine; omega) (fun h4 t1 k4 hx4 => ?_)
  have hns4 : h4.Ns hp.objs.size (fun y => ([("self", Value.ref x), ("row", Value.int n tk)] : List (Str × Value)).reverse.lookup y) := by
    obtain ⟨oL, es, ep, e1, r⟩ := hns3
    exact ⟨oL, es, ep, k4 _ _ hL e1, r⟩
  have X4 : K.In h4 := fun a o e => k4 a o (fun z => by rw [z, hnx] at e; cases e) (k3 _ _ (X2 a o e))
  refine ks_wpAt_execs_cons (ks_wpAt_Assign_Attr (wpAt_of_wpAny (wpAny_Name (wpAny_loadName_local (v := .int n tk) rfl rfl hns4 (by first | rfl | decide) (wpAny_Name (wpAny_loadName_local (v := .ref x) rfl rfl hns4 (by first | rfl | decide) ?_) (by decide))) (by decide))))
  refine set_plain X4 (ox := excO C t1) (od := none) ⟨hx4, rfl, rfl, trivial⟩ T.sa ?_
  refine exc_osa X4 hx4 hcl (show refsVE (.ref C :: bm) = true from hbm) rfl T.noN (fun h5 tk5 dx k5 dn dne hx5 hn5 => ?_)
  refine wpAt_of_wpAny (wpAny_execs_nil (hq h5 _ dx t1 ⟨fun b o hb e => k5 b o hb (k4 b o hb (k3 b o (k2 b o (kk b o e)))), hx5, ?_, dne, hn5⟩))
  have z := Heap.lt_size (show h4.get? hp.objs.size = some _ from hns4.choose_spec.choose_spec.choose_spec.1)
  exact Nat.le_trans (Nat.le_of_lt z) (show h4.objs.size ≤ dx from dn)
end
end MxX
end PySem

namespace PySem
namespace MxX
open PySem.W PySem.Calls PyProof.Rows PySem.HandSPX
/-- a made one -/
structure NewN (h h' : Heap) (e C d : Addr) (v : Value) : Prop where
  keep : ∀ b o, h.get? b = some o → h'.get? b = some o
  new : h.objs.size ≤ e
  obj : ∃ oe vs, h'.get? e = some oe ∧ oe.cls = .ref C ∧ oe.dict = some d ∧ oe.data = .fields vs ∧ vs[1]? = some .none
  dbig : h.objs.size ≤ d
  dne : d ≠ e
  ns : h'.Ns1 d (fun y => if y = "number" then some v else none)
section
variable {prog : Program} {w : World} {A : Around} {R : Result → Shared → Prop} {s : Shared} {K : Frag} {mg mb : Str → Option Value} {C fI : Addr} {qual pre post : Str}
theorem makeN (T : NumN prog K C fI qual pre post) {n : Int} {tk : Tok} (X : K.In s.heap) (G : s.heap.Ns mainGlobals mg) (hm : mg "super" = none) (G2 : s.heap.Ns builtinsNs mb) (hm2 : mb "super" = some (.type "super")) (hlim : s.heap.NoLimit)
    (hn : n.natAbs.log2 < 1920) (hl1 : pre.length ≤ 100) (hl2 : post.length ≤ 100) (hl3 : (Str.ofString (toString n)).length ≤ 10000) (hroom : A.depth + 1 < recursionLimit)
    (hq : ∀ h' tk' e d, NewN s.heap h' e C d (.int n tk) → R (.ok (.ret (.ref e))) { s with heap := h', toks := tk' }) : codeAny (model prog w) A (.call (.ref C) ⟨[.int n tk], []⟩) R s := by
  obtain ⟨nm, q, N, bs, bm, sn, sub, ab, col, dd, k0, k1, k2, k3, k5, hC, hbm⟩ := T.cls
  obtain ⟨hp, g, dr, t, os⟩ := s
  have old : ∀ b o, hp.get? b = some o → ((hp.push (kdv_tup [.int n tk])).push (excO C hp.objs.size)).get? b = some o := fun b o e => Heap.get?_push_of_some _ (Heap.get?_push_of_some _ e)
  have hx : ((hp.push (kdv_tup [.int n tk])).push (excO C hp.objs.size)).get? (hp.objs.size + 1) = some (excO C hp.objs.size) := by heap_get
  have hnx : K.lookup (hp.objs.size + 1) = none := by
    cases e : K.lookup (hp.objs.size + 1) with
    | none => rfl
    | some o => exact absurd (Nat.lt_of_succ_lt (Heap.lt_size (show hp.get? (hp.objs.size + 1) = some o from X _ _ e))) (Nat.lt_irrefl _)
  refine call_own F.excBase_ValueError (fun Y => refsVE_contains Y bm hbm) (X _ _ hC) (looks_findIn X T.iC) (fun self => bind_fn X self T.tC) (by rw [sizeLine_eq]; exact (by decide : 1 ≤ 16777216)) ?_
  refine initN (s := ⟨(hp.push (kdv_tup [.int n tk])).push (excO C hp.objs.size), g, dr, t, os⟩) T (X.keeps old) (G.keeps old) hm (G2.keeps old) hm2 (hlim.keeps old) hx hnx hn hl1 hl2 hl3 (show A.depth + 1 < recursionLimit from hroom) fun h' tk' dx t1 M => ?_
  have z : hp.objs.size + 1 + 1 ≤ dx := by
    have q := M.dbig
    rw [Heap.size_push, Heap.size_push] at q
    exact q
  exact ⟨rfl, hq h' tk' (hp.objs.size + 1) dx ⟨fun b o e => M.keep b o (Nat.ne_of_lt (Nat.lt_succ_of_lt (Heap.lt_size e))) (old b o e), Nat.le_succ _, ⟨_, _, M.obj, rfl, rfl, rfl, rfl⟩, Nat.le_trans (Nat.le_trans (Nat.le_succ _) (Nat.le_succ _)) z, M.dne, M.ns⟩⟩
end
end MxX
end PySem
namespace L2
open PySem PySem.Spec PyProof.Rows
theorem relON {v : V} {v' : Value} (r : RelV v v') (f : Str) : RelO (List.lookup f [(("number" : Str), v)]) (if f = "number" then some v' else none) := by
  by_cases hw : f = "number"
  · subst hw
    rw [if_pos rfl, show List.lookup ("number" : Str) [(("number" : Str), v)] = some v from by simp [List.lookup]]
    exact r
  · have qw : (f == ("number" : Str)) = false := by simpa using hw
    rw [if_neg hw, show List.lookup f [(("number" : Str), v)] = none from by simp [List.lookup, qw]]
    trivial
section
variable {X : Cx} {C fI : Addr} {qual pre post : Str}
/-- C(e) -/
def tMkN (C : Addr) (ta : TA) : St → Hp → XK → Prop := fun σ H Q => ta σ H fun vs H1 => ∃ n : Int, vs = [.int n] ∧ 0 ≤ n ∧ n < 100000 ∧ ∀ d, H1 d = none → Q (.ref C) (some d) (upd H1 d (.xd [(("number" : Str), .int n)]))
theorem small_txt {n : Int} (h0 : 0 ≤ n) (h1 : n < 100000) : n.natAbs.log2 < 1920 ∧ (Str.ofString (toString n)).length ≤ 10000 := by
  refine ⟨?_, ?_⟩
  · have : n.natAbs < 2 ^ 20 := by omega
    by_cases hz : n.natAbs = 0
    · rw [hz]; decide
    · have := (Nat.log2_lt hz).mpr this
      omega
  · obtain ⟨k, rfl⟩ : ∃ k : Nat, n = k := ⟨n.toNat, by omega⟩
    rw [TL.len_tl, TL.tl_num]
    exact Nat.le_trans (TL.numL_len (k := 5) (by decide) (by omega)) (by decide)
theorem pmkN {cn : Str} {a : Expr} {ta : TA} {p pos : Pos} {k : Nat} (T : PySem.MxX.NumN X.prog X.K C fI qual pre post) (gC : X.mg cn = some (.ref C)) (hsup : X.mg "super" = none) (hl1 : pre.length ≤ 100) (hl2 : post.length ≤ 100) (hr : Room k X.A) (ha : PA X [a] ta) (hg : Gl X cn := by rfl)
    (hdb : (cn == ("__debug__" : Str)) = false := by decide) (he : starEach (a :: []) X.env = (false, eval a X.env) :: starEach [] X.env := by rfl) (hpl : (backTo pos (starEach [] X.env)).any (·.1) = false := by rfl) :
    PMk X (.Call (.Name cn p) [a] [] pos) (tMkN C ta) := by
  intro pins s σ H Q I h
  refine wpAny_Call_Name_kw (ld_glob I hg gC ?_ hdb)
  refine PySem.W.callWith_K (h₀ := X.base) I.ok.mod.kin T.kC (thn (ha.run pos pins s σ H _ I h) fun us s1 hh => ?_) he hpl
  obtain ⟨vs, H1, I1, r1, n, ev, n0, n1, q1⟩ := hh
  subst ev
  refine ⟨I1.kIn, ?_⟩
  cases r1 with
  | cons rv rn =>
    rename_i v' us'
    cases rn
    obtain ⟨tk, rfl⟩ := rv
    show wpAny _ _ (call (.ref C) [_]) _ _ _
    have hlim := I1.nolimit
    have hst := small_txt n0 n1
    obtain ⟨mb, b1, b2⟩ := I1.mod.blt
    have hb : mb "super" = some (.type "super") := (b2 "super" (by decide)).trans (by decide +kernel)
    have gk := I1.mod.glob.keeps I1.bk
    have bk := b1.keeps I1.bk
    obtain ⟨hp, g, dr, tk0, os⟩ := s1
    refine wpAny_call (PySem.MxX.makeN T I1.kIn gk hsup bk hb hlim hst.1 hl1 hl2 hst.2 (by have := hr.dp; omega) fun h' tk' e d M => ?_)
    show MkP X pins σ Q (.ref e) ⟨h', g, dr, tk', os⟩
    obtain ⟨oe, fv, hoe, hc, hd, hdat, h1⟩ := M.obj
    obtain ⟨G', g1, g2⟩ := restrict h' fun b => decide (b ≠ e)
    have gk : ∀ b, b ≠ e → G'.get? b = h'.get? b := fun b hb => g1 b (decide_eq_true hb)
    have ge : G'.get? e = none := g2 e (by simp)
    have keep : ∀ b o, hp.get? b = some o → G'.get? b = some o := fun b o q => (gk b (Nat.ne_of_lt (Nat.lt_of_lt_of_le (Heap.lt_size q) M.new))).trans (M.keep b o q)
    have ob : ObjOk X.prog X.w (upd H1 d (.xd [(("number" : Str), .int n)])) G' d (.xd [(("number" : Str), .int n)]) := ⟨_, M.ns.at (fun o q => (gk d M.dne).trans q), fun f => relON (v := .int n) (v' := .int n tk) ⟨tk, rfl⟩ f⟩
    have J : Inv X pins σ (upd H1 d (.xd [(("number" : Str), .int n)])) ⟨G', g, dr, tk', os⟩ := I1.laid (t' := tk') keep M.dbig ob
    refine ⟨e, oe, fv, ⟨G', g, dr, tk', os⟩, _, .ref C, some d, rfl, J, fun b o q => ?_, ge, hoe, ⟨hc, hd⟩, hdat, h1, ?_, rfl, I1.bare, raises_own T.exC T.tyC, q1 d (I1.hok.fresh M.dbig)⟩
    · by_cases hb : b = e
      · rw [hb] at q
        exact absurd (ge.symm.trans q) (by simp)
      · exact (gk b hb).symm.trans q
    · rw [upd_ne (Ne.symm M.dne)]
      exact I1.hok.fresh M.new
/-- raise C(e) -/
theorem ps_raiseN {cn : Str} {a : Expr} {ta : TA} {W : WX} {p pos pos2 : Pos} {k : Nat} (hc : X.calm = true) (T : PySem.MxX.NumN X.prog X.K C fI qual pre post) (gC : X.mg cn = some (.ref C)) (hsup : X.mg "super" = none) (hl1 : pre.length ≤ 100) (hl2 : post.length ≤ 100) (hr : Room k X.A) (tk : Takes X W) (ha : PA X [a] ta) (hg : Gl X cn := by rfl)
    (hdb : (cn == ("__debug__" : Str)) = false := by decide) (he : starEach (a :: []) X.env = (false, eval a X.env) :: starEach [] X.env := by rfl) (hpl : (backTo pos (starEach [] X.env)).any (·.1) = false := by rfl) :
    PS X (.Raise (some (.Call (.Name cn p) [a] [] pos)) none pos2) (fun _ σ H => tMkN C ta σ H fun cls d H' => W cls d σ H') := ps_raise hc tk (pmkN T gC hsup hl1 hl2 hr ha hg hdb he hpl)
/-- e.f, e the exception that the suite holds -/
def tByN (C : Addr) (a : Addr) (cls : Value) (d : Option Addr) (te : TE) : TE := fun σ H Q => te σ H fun x H1 => x = .ref a ∧ cls = .ref C ∧ ∃ (dd : Addr) (v : V), d = some dd ∧ H1 dd = some (.xd [(("number" : Str), v)]) ∧ Q v H1
theorem pe_byN {a : Addr} {oe : Obj} {cls : Value} {d : Option Addr} {pn : List (Addr × Obj)} {e : Expr} {te : TE} {pos : Pos} (T : PySem.MxX.NumN X.prog X.K C fI qual pre post) (hz : Zc cls d oe) (hf : ∃ vs, oe.data = .fields vs) (he : PE (X.suite a ((a, oe) :: pn)) e te)
    (hb : attributeBase e "number" X.env (eval e X.env) = eval e X.env := by rfl) : PE (X.suite a ((a, oe) :: pn)) (.Attribute e "number" pos) (tByN C a cls d te) := by
  refine ⟨fun pins s σ H Q I h => ?_⟩
  refine attr_of hb (thn (he.run pins s σ H _ I h) fun u s1 hh => ?_)
  obtain ⟨x, H1, I1, rx, ex, ec, dd, v, ed, ea, q⟩ := hh
  subst ex ec ed
  obtain rfl : u = Value.ref a := rx
  obtain ⟨ha, _⟩ := I1.pin (a, oe) (List.mem_append_left _ List.mem_cons_self)
  obtain ⟨vs, hd⟩ := hf
  have hx : ObjOk X.prog X.w H1 s1.heap dd (.xd [(("number" : Str), v)]) := I1.hok dd _ ea
  obtain ⟨mA, hns, hr⟩ := hx
  obtain ⟨od, ho, hl⟩ := lookIn_ns hns
  have l : List.lookup ("number" : Str) [(("number" : Str), v)] = some v := by simp [List.lookup]
  obtain ⟨u, hu, ru⟩ := RelO.some_of (v := v) (o := mA "number") (by rw [← l]; exact hr "number")
  have J : PySem.W.InstAt s1.heap a oe C (some od) := ⟨ha, hz.1, by unfold PySem.W.notCls; rw [hd] <;> rfl, by rw [hz.2]; exact ho⟩
  exact HandSPX.exc_get I1.kIn J T.ga T.gg T.exC (PySem.W.findObj_own T.hdC T.noN rfl (by rw [hl, hu])) (handed_of ru) ⟨v, H1, I1.tok _, ru, q⟩
end
end L2
namespace PySem
namespace MxX
open PySem.W PySem.Calls PyProof.Rows PySem.HandSPX
/-- a made one -/
structure NewR (h h' : Heap) (e C d : Addr) (v : Value) : Prop where
  keep : ∀ b o, h.get? b = some o → h'.get? b = some o
  new : h.objs.size ≤ e
  obj : ∃ oe vs, h'.get? e = some oe ∧ oe.cls = .ref C ∧ oe.dict = some d ∧ oe.data = .fields vs ∧ vs[1]? = some .none
  dbig : h.objs.size ≤ d
  dne : d ≠ e
  ns : h'.Ns1 d (fun y => if y = "row" then some v else none)
section
variable {prog : Program} {w : World} {A : Around} {R : Result → Shared → Prop} {s : Shared} {K : Frag} {mg mb : Str → Option Value} {C fI : Addr} {qual pre post : Str}
theorem makeR (T : NumR prog K C fI qual pre post) {n : Int} {tk : Tok} (X : K.In s.heap) (G : s.heap.Ns mainGlobals mg) (hm : mg "super" = none) (G2 : s.heap.Ns builtinsNs mb) (hm2 : mb "super" = some (.type "super")) (hlim : s.heap.NoLimit)
    (hn : n.natAbs.log2 < 1920) (hl1 : pre.length ≤ 100) (hl2 : post.length ≤ 100) (hl3 : (Str.ofString (toString n)).length ≤ 10000) (hroom : A.depth + 1 < recursionLimit)
    (hq : ∀ h' tk' e d, NewR s.heap h' e C d (.int n tk) → R (.ok (.ret (.ref e))) { s with heap := h', toks := tk' }) : codeAny (model prog w) A (.call (.ref C) ⟨[.int n tk], []⟩) R s := by
  obtain ⟨nm, q, N, bs, bm, sn, sub, ab, col, dd, k0, k1, k2, k3, k5, hC, hbm⟩ := T.cls
  obtain ⟨hp, g, dr, t, os⟩ := s
  have old : ∀ b o, hp.get? b = some o → ((hp.push (kdv_tup [.int n tk])).push (excO C hp.objs.size)).get? b = some o := fun b o e => Heap.get?_push_of_some _ (Heap.get?_push_of_some _ e)
  have hx : ((hp.push (kdv_tup [.int n tk])).push (excO C hp.objs.size)).get? (hp.objs.size + 1) = some (excO C hp.objs.size) := by heap_get
  have hnx : K.lookup (hp.objs.size + 1) = none := by
    cases e : K.lookup (hp.objs.size + 1) with
    | none => rfl
    | some o => exact absurd (Nat.lt_of_succ_lt (Heap.lt_size (show hp.get? (hp.objs.size + 1) = some o from X _ _ e))) (Nat.lt_irrefl _)
  refine call_own F.excBase_ValueError (fun Y => refsVE_contains Y bm hbm) (X _ _ hC) (looks_findIn X T.iC) (fun self => bind_fn X self T.tC) (by rw [sizeLine_eq]; exact (by decide : 1 ≤ 16777216)) ?_
  refine initR (s := ⟨(hp.push (kdv_tup [.int n tk])).push (excO C hp.objs.size), g, dr, t, os⟩) T (X.keeps old) (G.keeps old) hm (G2.keeps old) hm2 (hlim.keeps old) hx hnx hn hl1 hl2 hl3 (show A.depth + 1 < recursionLimit from hroom) fun h' tk' dx t1 M => ?_
  have z : hp.objs.size + 1 + 1 ≤ dx := by
    have q := M.dbig
    rw [Heap.size_push, Heap.size_push] at q
    exact q
  exact ⟨rfl, hq h' tk' (hp.objs.size + 1) dx ⟨fun b o e => M.keep b o (Nat.ne_of_lt (Nat.lt_succ_of_lt (Heap.lt_size e))) (old b o e), Nat.le_succ _, ⟨_, _, M.obj, rfl, rfl, rfl, rfl⟩, Nat.le_trans (Nat.le_trans (Nat.le_succ _) (Nat.le_succ _)) z, M.dne, M.ns⟩⟩
end
end MxX
end PySem
namespace L2
open PySem PySem.Spec PyProof.Rows
theorem relOR {v : V} {v' : Value} (r : RelV v v') (f : Str) : RelO (List.lookup f [(("row" : Str), v)]) (if f = "row" then some v' else none) := by
  by_cases hw : f = "row"
  · subst hw
    rw [if_pos rfl, show List.lookup ("row" : Str) [(("row" : Str), v)] = some v from by simp [List.lookup]]
    exact r
  · have qw : (f == ("row" : Str)) = false := by simpa using hw
    rw [if_neg hw, show List.lookup f [(("row" : Str), v)] = none from by simp [List.lookup, qw]]
    trivial
section
variable {X : Cx} {C fI : Addr} {qual pre post : Str}
/-- C(e) -/
def tMkR (C : Addr) (ta : TA) : St → Hp → XK → Prop := fun σ H Q => ta σ H fun vs H1 => ∃ n : Int, vs = [.int n] ∧ 0 ≤ n ∧ n < 100000 ∧ ∀ d, H1 d = none → Q (.ref C) (some d) (upd H1 d (.xd [(("row" : Str), .int n)]))
theorem pmkR {cn : Str} {a : Expr} {ta : TA} {p pos : Pos} {k : Nat} (T : PySem.MxX.NumR X.prog X.K C fI qual pre post) (gC : X.mg cn = some (.ref C)) (hsup : X.mg "super" = none) (hl1 : pre.length ≤ 100) (hl2 : post.length ≤ 100) (hr : Room k X.A) (ha : PA X [a] ta) (hg : Gl X cn := by rfl)
    (hdb : (cn == ("__debug__" : Str)) = false := by decide) (he : starEach (a :: []) X.env = (false, eval a X.env) :: starEach [] X.env := by rfl) (hpl : (backTo pos (starEach [] X.env)).any (·.1) = false := by rfl) :
    PMk X (.Call (.Name cn p) [a] [] pos) (tMkR C ta) := by
  intro pins s σ H Q I h
  refine wpAny_Call_Name_kw (ld_glob I hg gC ?_ hdb)
  refine PySem.W.callWith_K (h₀ := X.base) I.ok.mod.kin T.kC (thn (ha.run pos pins s σ H _ I h) fun us s1 hh => ?_) he hpl
  obtain ⟨vs, H1, I1, r1, n, ev, n0, n1, q1⟩ := hh
  subst ev
  refine ⟨I1.kIn, ?_⟩
  cases r1 with
  | cons rv rn =>
    rename_i v' us'
    cases rn
    obtain ⟨tk, rfl⟩ := rv
    show wpAny _ _ (call (.ref C) [_]) _ _ _
    have hlim := I1.nolimit
    have hst := small_txt n0 n1
    obtain ⟨mb, b1, b2⟩ := I1.mod.blt
    have hb : mb "super" = some (.type "super") := (b2 "super" (by decide)).trans (by decide +kernel)
    have gk := I1.mod.glob.keeps I1.bk
    have bk := b1.keeps I1.bk
    obtain ⟨hp, g, dr, tk0, os⟩ := s1
    refine wpAny_call (PySem.MxX.makeR T I1.kIn gk hsup bk hb hlim hst.1 hl1 hl2 hst.2 (by have := hr.dp; omega) fun h' tk' e d M => ?_)
    show MkP X pins σ Q (.ref e) ⟨h', g, dr, tk', os⟩
    obtain ⟨oe, fv, hoe, hc, hd, hdat, h1⟩ := M.obj
    obtain ⟨G', g1, g2⟩ := restrict h' fun b => decide (b ≠ e)
    have gk : ∀ b, b ≠ e → G'.get? b = h'.get? b := fun b hb => g1 b (decide_eq_true hb)
    have ge : G'.get? e = none := g2 e (by simp)
    have keep : ∀ b o, hp.get? b = some o → G'.get? b = some o := fun b o q => (gk b (Nat.ne_of_lt (Nat.lt_of_lt_of_le (Heap.lt_size q) M.new))).trans (M.keep b o q)
    have ob : ObjOk X.prog X.w (upd H1 d (.xd [(("row" : Str), .int n)])) G' d (.xd [(("row" : Str), .int n)]) := ⟨_, M.ns.at (fun o q => (gk d M.dne).trans q), fun f => relOR (v := .int n) (v' := .int n tk) ⟨tk, rfl⟩ f⟩
    have J : Inv X pins σ (upd H1 d (.xd [(("row" : Str), .int n)])) ⟨G', g, dr, tk', os⟩ := I1.laid (t' := tk') keep M.dbig ob
    refine ⟨e, oe, fv, ⟨G', g, dr, tk', os⟩, _, .ref C, some d, rfl, J, fun b o q => ?_, ge, hoe, ⟨hc, hd⟩, hdat, h1, ?_, rfl, I1.bare, raises_own T.exC T.tyC, q1 d (I1.hok.fresh M.dbig)⟩
    · by_cases hb : b = e
      · rw [hb] at q
        exact absurd (ge.symm.trans q) (by simp)
      · exact (gk b hb).symm.trans q
    · rw [upd_ne (Ne.symm M.dne)]
      exact I1.hok.fresh M.new
/-- raise C(e) -/
theorem ps_raiseR {cn : Str} {a : Expr} {ta : TA} {W : WX} {p pos pos2 : Pos} {k : Nat} (hc : X.calm = true) (T : PySem.MxX.NumR X.prog X.K C fI qual pre post) (gC : X.mg cn = some (.ref C)) (hsup : X.mg "super" = none) (hl1 : pre.length ≤ 100) (hl2 : post.length ≤ 100) (hr : Room k X.A) (tk : Takes X W) (ha : PA X [a] ta) (hg : Gl X cn := by rfl)
    (hdb : (cn == ("__debug__" : Str)) = false := by decide) (he : starEach (a :: []) X.env = (false, eval a X.env) :: starEach [] X.env := by rfl) (hpl : (backTo pos (starEach [] X.env)).any (·.1) = false := by rfl) :
    PS X (.Raise (some (.Call (.Name cn p) [a] [] pos)) none pos2) (fun _ σ H => tMkR C ta σ H fun cls d H' => W cls d σ H') := ps_raise hc tk (pmkR T gC hsup hl1 hl2 hr ha hg hdb he hpl)
/-- e.f, e the exception that the suite holds -/
def tByR (C : Addr) (a : Addr) (cls : Value) (d : Option Addr) (te : TE) : TE := fun σ H Q => te σ H fun x H1 => x = .ref a ∧ cls = .ref C ∧ ∃ (dd : Addr) (v : V), d = some dd ∧ H1 dd = some (.xd [(("row" : Str), v)]) ∧ Q v H1
theorem pe_byR {a : Addr} {oe : Obj} {cls : Value} {d : Option Addr} {pn : List (Addr × Obj)} {e : Expr} {te : TE} {pos : Pos} (T : PySem.MxX.NumR X.prog X.K C fI qual pre post) (hz : Zc cls d oe) (hf : ∃ vs, oe.data = .fields vs) (he : PE (X.suite a ((a, oe) :: pn)) e te)
    (hb : attributeBase e "row" X.env (eval e X.env) = eval e X.env := by rfl) : PE (X.suite a ((a, oe) :: pn)) (.Attribute e "row" pos) (tByR C a cls d te) := by
  refine ⟨fun pins s σ H Q I h => ?_⟩
  refine attr_of hb (thn (he.run pins s σ H _ I h) fun u s1 hh => ?_)
  obtain ⟨x, H1, I1, rx, ex, ec, dd, v, ed, ea, q⟩ := hh
  subst ex ec ed
  obtain rfl : u = Value.ref a := rx
  obtain ⟨ha, _⟩ := I1.pin (a, oe) (List.mem_append_left _ List.mem_cons_self)
  obtain ⟨vs, hd⟩ := hf
  have hx : ObjOk X.prog X.w H1 s1.heap dd (.xd [(("row" : Str), v)]) := I1.hok dd _ ea
  obtain ⟨mA, hns, hr⟩ := hx
  obtain ⟨od, ho, hl⟩ := lookIn_ns hns
  have l : List.lookup ("row" : Str) [(("row" : Str), v)] = some v := by simp [List.lookup]
  obtain ⟨u, hu, ru⟩ := RelO.some_of (v := v) (o := mA "row") (by rw [← l]; exact hr "row")
  have J : PySem.W.InstAt s1.heap a oe C (some od) := ⟨ha, hz.1, by unfold PySem.W.notCls; rw [hd] <;> rfl, by rw [hz.2]; exact ho⟩
  exact HandSPX.exc_get I1.kIn J T.ga T.gg T.exC (PySem.W.findObj_own T.hdC T.noN rfl (by rw [hl, hu])) (handed_of ru) ⟨v, H1, I1.tok _, ru, q⟩
end
end L2

namespace L2
open PySem PySem.Spec PyProof.Rows
/-! ### xs.count(y), all of them flat -/
def rCntF (K : PySem.W.Frag) : V → List V → Hp → VK → Prop := fun x xs H Q => ∃ (p : Addr) (ys : List V) (y : V), x = .ref p ∧ xs = [y] ∧ SqL K H p ys ∧ flatV y = true ∧ ys.all flatV = true ∧ Q (.int ((ys.countP fun z => eqV z y : Nat) : Int)) H
theorem count_rel {ys : List V} {us : List Value} (r : Vals ys us) (f : ys.all flatV = true) (y : V) : us.countP (eqU y) = ys.countP fun z => eqV z y := by
  induction r with
  | nil => rfl
  | @cons a b as bs h t ih =>
    simp only [List.all_cons, Bool.and_eq_true] at f
    rw [List.countP_cons, List.countP_cons, ih f.2, eqU_of h f.1]
theorem mt_lcountF {X : Cx} : MtR X "list.count" (rCntF X.K) := by
  intro pins s σ H x xs v us Q I rx rxs h
  obtain ⟨p, ys, y, rfl, rfl, hs, fy, fys, q⟩ := h
  cases rx
  obtain ⟨u, rfl, ru⟩ := rxs.one
  obtain ⟨its, rv, ⟨⟨cls, dd, data, sl⟩, n, ho, hc, hdn, hd⟩, hlen⟩ := I.list hs
  simp only at hc hd
  subst hc hd
  have ec : its.toArray.toList.countP (eqU y) = ys.countP fun z => eqV z y := count_rel rv fys y
  refine call_meets PySem.F.slot_list_count ⟨_, ho, rfl⟩ PySem.F.entry_list_count (PySem.F.args_list_count_2 _ _) (SeqAt.list_countAt p its.toArray n dd sl u (eqU y)) ⟨ho, fun z hz => mem_eqAt ru fy rv fys z (by simpa using hz), ?_⟩
  refine ⟨.int ((ys.countP fun z => eqV z y : Nat) : Int), H, I.tok _, ⟨s.toks, ?_⟩, q⟩
  show Value.int ((its.toArray.toList.countP (eqU y) : Nat) : Int) s.toks = _
  rw [ec]
/-! ### isinstance(e, c), e the exception of the suite -/
structure ExcK (K : PySem.W.Frag) (D : Addr) : Prop where
  cl : (PySem.W.clsIn K D).isSome = true
  ga : PySem.W.findIn K (.ref D) "__getattribute__" = some (some (.builtin "BaseException.__getattribute__"))
  gg : PySem.W.findIn K (.ref D) "__getattr__" = some none
  sb : PySem.W.subIn K (.ref D) (.type "BaseException") = some true
  ca : PySem.W.findIn K (.ref D) "__class__" = some (some (.builtin "object.__class__"))
  sp : PySem.W.specialIn K (.builtin "object.__class__") "__get__" = some (some (.builtin "getset_descriptor.__get__"))
  tk : PySem.W.takesIn K (.builtin "object.__class__") = some true
  mo : PySem.W.mroIn K D (.type "object") = some true
def rIsX (K : PySem.W.Frag) (a : Addr) (cls : Value) (d : Option Addr) : List V → Hp → VK → Prop := fun xs H Q => ∃ (D : Addr) (c : V) (cv : Value) (b : Bool), cls = .ref D ∧ ExcK K D ∧ xs = [.ref a, c] ∧ (∀ u, RelV c u → u = cv) ∧ PySem.W.kitOne K (.ref D) cv = some b ∧ (d = none ∨ ∃ dd fs, d = some dd ∧ H dd = some (.xd fs)) ∧ Q (.bl b) H
theorem call_isX {X : Cx} {a : Addr} {oe : Obj} {cls : Value} {d : Option Addr} {pn : List (Addr × Obj)} (hz : Zc cls d oe) (hf : ∃ vs, oe.data = .fields vs) : CallR (X.suite a ((a, oe) :: pn)) (.builtin "isinstance") (rIsX X.K a cls d) := by
  intro pins s σ H xs us Q I r h
  obtain ⟨D, c, cv, b, rfl, C, rfl, hcv, e, hdd, q⟩ := h
  cases r with
  | cons rx rr =>
    cases rr with
    | cons rt rn =>
      cases rn
      cases rx
      obtain rfl := hcv _ rt
      obtain ⟨hget, _⟩ := I.pin (a, oe) (List.mem_append_left _ List.mem_cons_self)
      obtain ⟨vs, hv⟩ := hf
      have nc : PySem.W.notCls oe = true := by unfold PySem.W.notCls; rw [hv] <;> rfl
      have fin : ∀ od : Option Obj, PySem.W.InstAt s.heap a oe D od → wpAny (model (X.suite a ((a, oe) :: pn)).prog (X.suite a ((a, oe) :: pn)).w) (X.suite a ((a, oe) :: pn)).A (call (.builtin "isinstance") [.ref a, _]) (EP (X.suite a ((a, oe) :: pn)) pins σ Q) (X.suite a ((a, oe) :: pn)).xe s := fun od J =>
        PySem.W.kia_one (PySem.W.kitx_exc C.cl C.ga C.gg C.sb C.ca C.sp C.tk C.mo) I.kIn J e (fun z => nomatch z) fun tk => ⟨.bl b, H, I.kept (t' := tk) fun _ _ z => z, rfl, q⟩
      rcases hdd with rfl | ⟨dd, fs, rfl, hx⟩
      · exact fin none ⟨hget, hz.1, nc, by rw [hz.2]; trivial⟩
      · have hx' : ObjOk _ _ H s.heap dd (.xd fs) := I.hok dd _ hx
        obtain ⟨mA, hns, _⟩ := hx'
        obtain ⟨od, es, ep, ho, _⟩ := hns
        exact fin (some od) ⟨hget, hz.1, nc, by rw [hz.2]; exact ho⟩
end L2

namespace L2
open PySem PySem.Spec PyProof.Rows LamX
/-! ### a def that calls the lambda it got: what is raised is wished at the caller's slots -/
section
variable {X : Cx} {pins : List (Addr × Obj)} {σ : L2.St} {H : Hp} {s : Shared}
/-- where the def that got the lambda runs -/
abbrev CxG (X : Cx) (N : List Str) (x : Str) (sg : Scope) (g : Addr) (cdg : Value) (s : Shared) (H : Hp) : Cx := cxOf C8.CX0 X.prog X.w X.K X.mg X.base N x sg g cdg X.A X.stack s H C8.E0
theorem pe_actS {N : List Str} {x : Str} {sg : Scope} {g f c' : Addr} {cdg pm ctv : Value} {params : Arguments} {body : Expr} {scope : Scope} {k i : Nat} {a : Str} {pn : List (Addr × Obj)} {xe : Value → Shared → Prop} {W : WX} {tb : XK → TE} {p1 p2 : Pos}
    (I : Inv X pins σ H s) (L : LamS X.env.scope scope) (hob : s.heap.get? f = some (PySem.W.kla_obj "<lambda>" (X.env.qual ++ "<lambda>") params body scope (cloFrom X.env.cells scope.names []) pm c' ctv)) (hfn : H f = none) (hfr : f ∉ frs X.stack)
    (hbind : bindArgs (PySem.W.kla_fn "<lambda>" (X.env.qual ++ "<lambda>") params body scope (cloFrom X.env.cells scope.names []) pm (.ref c') ctv) ⟨[], []⟩ = pure [])
    (tk : Takes ((CxG X N x sg g cdg s H).tr pn xe) W) (hr : Room (k + 1) (X.A.deeper (envOfC x sg s.heap.objs.size g cdg)))
    (hbody : ∀ (E : XK) (A : Around) (outer : List Env) (s : Shared) (H : Hp), Room k (A.deeper (lamEnv X scope s.heap.objs.size f c')) → PE (lamCx X A outer s H E scope f c') body (tb E))
    (hN : N[i]? = some a) (hv : Vis sg a) (hd : (a == ("__debug__" : Str)) = false := by decide) (hcd : (a == ("__classdict__" : Str)) = false := by decide) :
    PE ((CxG X N x sg g cdg s H).tr pn xe) (.Call (.Name a p1) [] [] p2)
      (fun σZ HZ Q => σZ[i]? = some (some (.ref f)) ∧ HZ c' = some (CodeO c' (X.env.qual ++ "<lambda>")) ∧ ∃ E : XK, (∀ cls d H', E cls d H' → W cls d σZ H') ∧ tb E σ HZ Q) := by
  refine ⟨fun pz sz σz Hz Q J h => ?_⟩
  obtain ⟨hs, hc, E, hW, ht⟩ := h
  refine wpAny_Call_Name_kw (thn ((pe_var (pos := p1) (i := i) hN hv hd hcd).run pz sz σz Hz (fun v H' => v = .ref f ∧ H' = Hz) J ⟨.ref f, hs, rfl, rfl⟩) fun u st ⟨v, Hv, I1, rv1, e1, e2⟩ => ?_)
  subst e1
  rw [e2] at I1
  obtain rfl : u = Value.ref f := rv1
  have hof : st.heap.get? f = some (PySem.W.kla_obj "<lambda>" (X.env.qual ++ "<lambda>") params body scope (cloFrom X.env.cells scope.names []) pm c' ctv) := I1.base.keep f _ hob hfn hfr (fun z => nomatch (show f ∈ ([] : List Addr) from z))
  refine PySem.W.callWith_F0 ⟨_, _, _, _, hof⟩ ?_
  have un : Un (frs X.stack) [] H Hz s.heap st.heap := I1.base
  obtain ⟨⟨oc, vs, t, ho1, ho2, ho3⟩, _, _⟩ := I1.hok c' _ hc
  have done : codeAny (model X.prog X.w) (X.A.deeper (envOfC x sg s.heap.objs.size g cdg)) (.call (.ref f) ⟨[], []⟩) (CR (L2.CX X.prog X.w) (envOfC x sg s.heap.objs.size g cdg :: X.stack) X.prog X.w Hz st Q E) st := by
    refine PySem.W.kla_callFunE hr.depth hof rfl L.co L.gen rfl ⟨c', oc, vs, t, rfl, ho1, ho2, ho3⟩ ?_
    rw [hbind]
    refine wpAny_pure (wpAny_newFunctionEnv (fun y hy => (L.own y hy).2) (fun y hy => absurd hy (by simp)) (fun hn hns hsb => ⟨I1.nolimit.fresh _ hsb, ?_⟩) L.kind)
    show codeAny _ _ (.expr body (lamEnv X scope st.heap.objs.size f c')) _ _
    have kk : ∀ b o, st.heap.get? b = some o → hn.get? b = some o := fun b o e => hsb.extBut b o (Nat.ne_of_lt (Heap.lt_size e)) (Heap.get?_push_of_some _ e)
    have JL := lam_start2 (E := E) (f := f) (c' := c') (A := X.A.deeper (envOfC x sg s.heap.objs.size g cdg)) (outer := envOfC x sg s.heap.objs.size g cdg :: X.stack) (tk := st.toks + ([] : List (Str × Value)).length) I L I1.env0 hr.hd un hns kk
    refine PySem.W.kla_codeExpr (wpAny_mono ((hbody E _ _ st Hz (hr.deeper _)).run [] _ _ Hz Q JL ht) (fun v s' hq => ?_) fun e s' hq => hq)
    obtain ⟨w', H', J', rv, q⟩ := hq
    exact ⟨w', H', J'.os, J'.bare, J'.base, J'.hok, rv, q⟩
  refine wpAny_call (codeAny_mono done fun r s' hq => ?_)
  cases r with
  | error e => exact tk e s' (XE.of_call I1 hW hq)
  | ok fl =>
    cases fl with
    | ret u => exact I1.after hq
    | next => exact hq.elim
    | brk => exact hq.elim
    | cont => exact hq.elim
/-- what the def x makes of a lambda's reading -/
def GivesW (X : Cx) (N : List Str) (x : Str) (sg : Scope) (g : Addr) (cdg : Value) (bg : List Stmt) (a : Str) (q : Str) (k : Nat) (TT : (XK → Hp → VK → Prop) → Hp → VK → Prop) : Prop :=
  ∀ (f c' : Addr) (s : Shared) (H : Hp) (Q : VK) (tl : XK → Hp → VK → Prop),
    (∀ (W : WX) (pn : List (Addr × Obj)) (xe : Value → Shared → Prop) (p1 p2 : Pos), Takes ((CxG X N x sg g cdg s H).tr pn xe) W →
      PE ((CxG X N x sg g cdg s H).tr pn xe) (.Call (.Name a p1) [] [] p2) (fun σZ HZ Q => σZ[0]? = some (some (.ref f)) ∧ HZ c' = some (CodeO c' q) ∧ ∃ E : XK, (∀ cls d H', E cls d H' → W cls d σZ H') ∧ tl E HZ Q)) →
    Room k (X.A.deeper (envOfC x sg s.heap.objs.size g cdg)) → H c' = some (CodeO c' q) → TT tl H Q →
    ∃ t, PSs (CxG X N x sg g cdg s H).nox bg t ∧ t { nx := fun _ H' => Q .non H', rt := Q } (L2.start N [.ref f]) H
/-- x(lambda: body) -/
theorem pe_lamW {T : List (Addr × Str)} {TT : (XK → Hp → VK → Prop) → Hp → VK → Prop} {x a : Str} {g c P : Addr} {k : Nat} {pg : Arguments} {bg : List Stmt} {sg : Scope} {dV kV doc pm cdv ct oc : Value} {an od : Option Addr} {osl : Array (Option Value)} {N : List Str}
    {params : Arguments} {body : Expr} {scope : Scope} {t : XK → TE} {p lpos pos : Pos} (hg : Gl X x) (hm : X.mg x = some (.ref g)) (hk : PySem.W.keepIn X.K (.ref g) = true)
    (lk : X.K.lookup g = some ⟨oc, od, .func (PySem.W.fnOf x x pg bg sg dV kV doc pm an cdv ct), osl⟩) (hcg : PySem.W.codeIn X.K cdv x = true) (hb : L2.Binds X.K (PySem.W.fnOf x x pg bg sg dV kV doc pm an cdv ct) [a] []) (Sg : FnScope N [a] sg) (hNg : N[0]? = some a) (hva : Vis sg a)
    (hG : GivesW X N x sg g cdv bg a (X.env.qual ++ "<lambda>") (k + 1) TT)
    (TB : TabB X.base X.mg c P) (hcode : X.env.code = .ref c) (hmT : (P, X.env.qual ++ "<lambda>") ∈ T) (hu : ∀ p ∈ T, p.1 = P → p.2 = X.env.qual ++ "<lambda>") (hr : Room (k + 2) X.A) (L : LamS X.env.scope scope) (hdef : defaultsOf params X.env = ([], []))
    (hbind : ∀ (q : Str) (cl : List (Str × Addr)) (pm cv ctv : Value), bindArgs (PySem.W.kla_fn "<lambda>" q params body scope cl pm cv ctv) ⟨[], []⟩ = pure [])
    (hbody : ∀ (E : XK) (A : Around) (outer : List Env) (s : Shared) (H : Hp) (f c' : Addr), Room k (A.deeper (lamEnv X scope s.heap.objs.size f c')) → PE (lamCx X A outer s H E scope f c') body (t E))
    (hdb : (x == ("__debug__" : Str)) = false := by decide) (hd : (a == ("__debug__" : Str)) = false := by decide) (hcd : (a == ("__classdict__" : Str)) = false := by decide) :
    PE X (.Call (.Name x p) [.Lambda params body scope lpos] [] pos) (tLam T TT t) := by
  refine ⟨fun pins s σ H Q I h => ?_⟩
  obtain ⟨hT, hh⟩ := h
  refine wpAny_Call_Name_kw (ld_glob I hg hm ?_ hdb)
  refine PySem.W.callWith_K (h₀ := X.base) I.ok.mod.kin hk ?_ (by rfl) (by rfl)
  show wpAny _ _ (spliced ((false, eval (.Lambda params body scope lpos) X.env) :: backTo pos (starEach [] X.env))) _ _ s
  refine Calls.spliced_cons (lam_make2 I TB hcode hmT hu hT hdef (L.has I.ok) fun f c' pm' ctv HL sL IL eL TL hob hfn hfr hco => ?_)
  refine Calls.spliced_nil ⟨IL.kIn, ?_⟩
  have done : codeAny (model X.prog X.w) X.A (.call (.ref g) ⟨[.ref f], []⟩) (CR C8.CX0 X.stack X.prog X.w HL sL Q C8.E0) sL := by
    refine run_ofS (N := N) (ps := [a]) (us := [.ref f]) (vs := [.ref f]) lk hcg Sg hr IL.env0 (hb sL [.ref f] IL.kIn rfl) (.cons rfl .nil) rfl fun hr' => ?_
    obtain ⟨t', ht', hq'⟩ := hG f c' sL HL Q (fun E H' Q' => t E σ H' Q') (fun W pn xe p1 p2 tk => pe_actS (i := 0) IL L hob hfn hfr (hbind _ _ _ _ _) tk hr' (fun E A outer s H hr2 => hbody E A outer s H f c' hr2) hNg hva hd hcd) hr' hco (hh HL eL TL)
    exact ⟨t', ht'.nox, hq'⟩
  refine wpAny_call (codeAny_mono done fun r s2 hq => ?_)
  cases r with
  | error e => exact (show False from hq).elim
  | ok fl =>
    cases fl with
    | ret u => exact IL.after hq
    | next => exact hq.elim
    | brk => exact hq.elim
    | cont => exact hq.elim
end
end L2

namespace L2
open PySem PySem.Spec PyProof.Rows
/-- what the class at C says, so that e.f is read from its own dict -/
structure FldE (K : PySem.W.Frag) (C : Addr) (f : Str) : Prop where
  ga : PySem.W.findIn K (.ref C) "__getattribute__" = some (some (.builtin "BaseException.__getattribute__"))
  gg : PySem.W.findIn K (.ref C) "__getattr__" = some none
  sb : PySem.W.subIn K (.ref C) (.type "BaseException") = some true
  hd : PySem.W.hasDictIn K C = true
  no : PySem.W.findIn K (.ref C) f = some none
def tFldE (K : PySem.W.Frag) (f : Str) (a : Addr) (cls : Value) (d : Option Addr) (te : TE) : TE := fun σ H Q => te σ H fun x H1 => x = .ref a ∧ ∃ (C dd : Addr) (v : V), cls = .ref C ∧ FldE K C f ∧ d = some dd ∧ H1 dd = some (.xd [(f, v)]) ∧ Q v H1
theorem pe_fldE {X : Cx} {f : Str} {a : Addr} {oe : Obj} {cls : Value} {d : Option Addr} {pn : List (Addr × Obj)} {e : Expr} {te : TE} {pos : Pos} (hz : Zc cls d oe) (hf : ∃ vs, oe.data = .fields vs) (he : PE (X.suite a ((a, oe) :: pn)) e te)
    (hb : attributeBase e f X.env (eval e X.env) = eval e X.env := by rfl) : PE (X.suite a ((a, oe) :: pn)) (.Attribute e f pos) (tFldE X.K f a cls d te) := by
  refine ⟨fun pins s σ H Q I h => ?_⟩
  refine attr_of hb (thn (he.run pins s σ H _ I h) fun u s1 hh => ?_)
  obtain ⟨x, H1, I1, rx, ex, C, dd, v, ec, T, ed, ea, q⟩ := hh
  subst ex ec ed
  obtain rfl : u = Value.ref a := rx
  obtain ⟨ha, _⟩ := I1.pin (a, oe) (List.mem_append_left _ List.mem_cons_self)
  obtain ⟨vs, hd⟩ := hf
  have hx : ObjOk X.prog X.w H1 s1.heap dd (.xd [(f, v)]) := I1.hok dd _ ea
  obtain ⟨mA, hns, hr⟩ := hx
  obtain ⟨od, ho, hl⟩ := lookIn_ns hns
  have l : List.lookup f [(f, v)] = some v := by simp [List.lookup]
  obtain ⟨u, hu, ru⟩ := RelO.some_of (v := v) (o := mA f) (by rw [← l]; exact hr f)
  have J : PySem.W.InstAt s1.heap a oe C (some od) := ⟨ha, hz.1, by unfold PySem.W.notCls; rw [hd] <;> rfl, by rw [hz.2]; exact ho⟩
  exact HandSPX.exc_get I1.kIn J T.ga T.gg T.sb (PySem.W.findObj_own T.hd T.no rfl (by rw [hl, hu])) (handed_of ru) ⟨v, H1, I1.tok _, ru, q⟩
end L2
namespace Mx
open PySem L2 LamX
/-! ### the word of a refusal -/
def wordsR : List Str := ["soft", "name", "there", "none", "pace", "wait", "parcel", "end", "lead", "bounds", "arrivals", "deed", "text"]
/-- the classes of refusals, in their order, by their names -/
structure WordG (mg : Str → Option Value) (cw : Nat → Addr) (cM : Addr) : Prop where
  g0 : mg "BadSoft" = some (.ref (cw 0))
  g1 : mg "BadName" = some (.ref (cw 1))
  g2 : mg "There" = some (.ref (cw 2))
  g3 : mg "NoVoice" = some (.ref (cw 3))
  g4 : mg "BadPace" = some (.ref (cw 4))
  g5 : mg "BadWait" = some (.ref (cw 5))
  g6 : mg "BadParcel" = some (.ref (cw 6))
  g7 : mg "BadEnd" = some (.ref (cw 7))
  g8 : mg "BadLead" = some (.ref (cw 8))
  g9 : mg "BadBounds" = some (.ref (cw 9))
  g10 : mg "BadArrivals" = some (.ref (cw 10))
  g11 : mg "BadDeed" = some (.ref (cw 11))
  g12 : mg "BadText" = some (.ref (cw 12))
  gM : mg "MixError" = some (.ref cM)
  ve : mg "ValueError" = none
/-- what the class of number j is -/
structure WordJ (K : PySem.W.Frag) (cw : Nat → Addr) (cM : Addr) (j : Nat) : Prop where
  ex : ExcK K (cw j)
  is : ∀ i, i < 13 → PySem.W.kitOne K (.ref (cw j)) (.ref (cw i)) = some (decide (i = j))
  iv : PySem.W.kitOne K (.ref (cw j)) (.type "ValueError") = some true
  im : PySem.W.exmOne K (.ref (cw j)) (.ref cM) = some true
/-- what is told of a refusal of class j -/
def Told (K : PySem.W.Frag) (cw : Nat → Addr) (cM : Addr) (Q : VK) : XK := fun cls d H' => ∃ j, j < 13 ∧ cls = .ref (cw j) ∧ WordJ K cw cM j ∧
  ((j < 10 ∧ d = none ∧ ∀ H2, Stp [] H' H2 → Q (.str (wordsR.getD j Str.empty)) H2) ∨
   (10 ≤ j ∧ ∃ (dd : Addr) (n : Int), d = some dd ∧ FldE K (cw j) (if j = 12 then "row" else "number") ∧ H' dd = some (.xd [((if j = 12 then ("row" : Str) else "number"), .int n)]) ∧ ∀ p H2, Stp [] H' H2 → H2 p = some (.tup [.str (wordsR.getD j Str.empty), .int n]) → Q (.ref p) H2))
def TWord (K : PySem.W.Frag) (cw : Nat → Addr) (cM : Addr) : (XK → Hp → VK → Prop) → Hp → VK → Prop := fun tl H Q => tl (Told K cw cM Q) H fun _ H' => Q (.str "") H'
abbrev NWd : List Str := ["_law_work", "e", "_law_kinds", "_law_words", "_law_word_here"]
def tsW (K : PySem.W.Frag) (cw : Nat → Addr) (a : Addr) (cls : Value) (d : Option Addr) : TS :=
  (tSeq (tAsg (tLst (tCons (tCB (rIsX K a cls d) (tCons (tVar 1) (tCons (tC (.ref (cw 0))) tNil))) (tCons (tCB (rIsX K a cls d) (tCons (tVar 1) (tCons (tC (.ref (cw 1))) tNil))) (tCons (tCB (rIsX K a cls d) (tCons (tVar 1) (tCons (tC (.ref (cw 2))) tNil))) (tCons (tCB (rIsX K a cls d) (tCons (tVar 1) (tCons (tC (.ref (cw 3))) tNil))) tNil))))) (gName 2))
  (tSeq (tAsg (tOp rCat (tVar 2) (tLst (tCons (tCB (rIsX K a cls d) (tCons (tVar 1) (tCons (tC (.ref (cw 4))) tNil))) (tCons (tCB (rIsX K a cls d) (tCons (tVar 1) (tCons (tC (.ref (cw 5))) tNil))) (tCons (tCB (rIsX K a cls d) (tCons (tVar 1) (tCons (tC (.ref (cw 6))) tNil))) tNil))))) (gName 2))
  (tSeq (tAsg (tOp rCat (tVar 2) (tLst (tCons (tCB (rIsX K a cls d) (tCons (tVar 1) (tCons (tC (.ref (cw 7))) tNil))) (tCons (tCB (rIsX K a cls d) (tCons (tVar 1) (tCons (tC (.ref (cw 8))) tNil))) (tCons (tCB (rIsX K a cls d) (tCons (tVar 1) (tCons (tC (.ref (cw 9))) tNil))) tNil))))) (gName 2))
  (tSeq (tAsg (tOp rCat (tVar 2) (tLst (tCons (tCB (rIsX K a cls d) (tCons (tVar 1) (tCons (tC (.ref (cw 10))) tNil))) (tCons (tCB (rIsX K a cls d) (tCons (tVar 1) (tCons (tC (.ref (cw 11))) tNil))) (tCons (tCB (rIsX K a cls d) (tCons (tVar 1) (tCons (tC (.ref (cw 12))) tNil))) tNil))))) (gName 2))
  (tSeq (tIfS (tOr (tTest (tOp rNe (tBM K "list" (rCntF K) (tVar 2) (tCons (tC (.bl true)) tNil)) (tC (.int 1)))) (tNot (tB (tCB (rIsX K a cls d) (tCons (tVar 1) (tCons (tC (.ty "ValueError")) tNil)))))) tNever tNext)
  (tSeq (tAsg (tLst (tCons (tC (.str "soft")) (tCons (tC (.str "name")) (tCons (tC (.str "there")) (tCons (tC (.str "none")) (tCons (tC (.str "pace")) (tCons (tC (.str "wait")) (tCons (tC (.str "parcel")) (tCons (tC (.str "end")) (tCons (tC (.str "lead")) (tCons (tC (.str "bounds")) (tCons (tC (.str "arrivals")) tNil)))))))))))) (gName 3))
  (tSeq (tAsg (tOp (rIxL K) (tOp rCat (tVar 3) (tLst (tCons (tC (.str "deed")) (tCons (tC (.str "text")) tNil)))) (tBM K "list" (rIndex K) (tVar 2) (tCons (tC (.bl true)) tNil))) (gName 4))
  (tSeq (tIfS (tTest (tOp (rIn K false) (tVar 4) (tTup (tCons (tC (.str "arrivals")) (tCons (tC (.str "deed")) tNil))))) (tRet (tTup (tCons (tVar 4) (tCons (tFldE K "number" a cls d (tVar 1)) tNil)))) tNext)
  (tRet (tIf (tTest (tOp rEq (tVar 4) (tC (.str "text")))) (tTup (tCons (tVar 4) (tCons (tFldE K "row" a cls d (tVar 1)) tNil))) (tVar 4)))))))))))
theorem sc_law_word : FnScope NWd ["_law_work"] (defScope s_law_word) := ⟨rfl, rfl, rfl, by decide +kernel, rfl, by decide +kernel, by decide +kernel⟩
abbrev HD (d : Option Addr) (H : Hp) : Prop := d = none ∨ ∃ dd fs, d = some dd ∧ H dd = some (.xd fs)
theorem HD.st {d : Option Addr} {H H' : Hp} (h : HD d H) (s : Stp [] H H') : HD d H' := by
  rcases h with h | ⟨dd, fs, h, e⟩
  · exact .inl h
  · exact .inr ⟨dd, fs, h, s.keep _ _ e (by simp)⟩
theorem tIsA {K : PySem.W.Frag} {cw : Nat → Addr} {cM : Addr} {j i : Nat} {a : Addr} {d : Option Addr} {ts : TA} {σ : L2.St} {H : Hp} {R : List V → Hp → Prop} (J : WordJ K cw cM j) (hd : HD d H) (hi : i < 13) (hσ : σ[1]? = some (some (.ref a)))
    (h : ts σ H fun xs H2 => R (.bl (decide (i = j)) :: xs) H2) : tCons (tCB (rIsX K a (.ref (cw j)) d) (tCons (tVar 1) (tCons (tC (.ref (cw i))) tNil))) ts σ H R :=
  ⟨_, hσ, cw j, .ref (cw i), .ref (cw i), _, rfl, J.ex, rfl, fun u hu => hu, J.is i hi, hd, h⟩
def kindsV (j : Nat) : List V := [.bl (decide (0 = j)), .bl (decide (1 = j)), .bl (decide (2 = j)), .bl (decide (3 = j)), .bl (decide (4 = j)), .bl (decide (5 = j)), .bl (decide (6 = j)), .bl (decide (7 = j)), .bl (decide (8 = j)), .bl (decide (9 = j)), .bl (decide (10 = j)), .bl (decide (11 = j)), .bl (decide (12 = j))]
theorem kinds_cnt : ∀ j < 13, (kindsV j).countP (fun z => eqV z (.bl true)) = 1 := by decide +kernel
theorem kinds_at : ∀ j < 13, (kindsV j)[j]? = some (.bl true) := by decide +kernel
theorem kinds_lo : ∀ j < 13, ∀ m < j, ((kindsV j)[m]?).all (fun z => !eqV z (.bl true)) = true := by decide +kernel
def wordsV : List V := wordsR.map V.str
theorem words_at : ∀ j < 13, atI wordsV (j : Nat) = some (.str (wordsR.getD j Str.empty)) := by decide +kernel
theorem words_in : ∀ j < 13, inV (.str (wordsR.getD j Str.empty)) [.str "arrivals", .str "deed"] = decide (j = 10 ∨ j = 11) := by decide +kernel
theorem words_tx : ∀ j < 13, decide (V.str (wordsR.getD j Str.empty) = .str "text") = decide (j = 12) := by decide +kernel
set_option hygiene false in
local macro_rules | `(tactic| walk_at "rd") => `(tactic| try simp only [L2.start, List.map_cons, List.map_nil, List.length_cons, List.length_nil, Nat.reduceAdd, Nat.reduceSub, Nat.reduceLT, Nat.reduceLeDiff, List.replicate_succ, List.replicate_zero, List.append_nil, List.nil_append, List.cons_append, List.set_cons_zero, List.set_cons_succ, List.getElem?_cons_zero, List.getElem?_cons_succ,
  Option.some.injEq, List.cons.injEq, and_true, true_and, and_assoc, reduceCtorEq, L2.V.int.injEq, L2.V.ref.injEq, L2.V.bl.injEq, L2.V.str.injEq, L2.V.ty.injEq, L2.HO.ins.injEq, L2.HO.lst.injEq, L2.HO.tup.injEq, L2.HO.dK.injEq, exists_eq_left', exists_eq_left, exists_eq_right, exists_eq', exists_eq, exists_and_left, exists_and_right, reduceIte, Bool.false_eq_true, Bool.not_true, Bool.not_false,
  L2.tSeq, L2.tIfS, L2.tRet, L2.tRetN, L2.tNext, L2.tAsg, L2.gName, L2.tVar, L2.tC, L2.tCons, L2.tNil, L2.tCB, L2.tOp, L2.tUn, L2.tTup, L2.tLst, L2.tB, L2.tOr, L2.tAnd, L2.tNot, L2.tAndV, L2.tOrV, L2.tNotV, L2.tIf, L2.tTest, L2.tChain, L2.rI, L2.rI0, L2.rU, L2.tDrop, L2.tNever, L2.tCall, L2.tMeth, L2.tMake, L2.rGcd, L2.tFld, L2.sFld, L2.sFldAug, Mx.sFldA, Mx.sFldAugA, L2.rAdd, L2.rSub, L2.rEq, L2.rNe, L2.tDGet, L2.tDIn, L2.tDNotIn, L2.sDPut,
  Mx.isi_int_bool, Mx.isi_int_int, Mx.isi_int_tuple, Mx.isi_int_list, Mx.isi_int_str, Mx.scal_int, Mx.scal_str, Mx.scal_bl, Mx.ofString_inj, Mx.ofString_beq, Mx.lk_cons, Mx.pf_nil, Mx.pf_cons, Mx.sz1, Mx.sz2, List.lookup_nil, String.reduceEq, decide_true, decide_false, decide_eq_true_eq, Int.natAbs_natCast, L2.upd_same, L2.upd_upd, L2.cxOf, L2.gSub, L2.tPar, L2.gCons, L2.gNil])
set_option hygiene false in
local macro_rules | `(tactic| walk_at "rds") => `(tactic| try simp only [L2.start, List.map_cons, List.map_nil, List.length_cons, List.length_nil, Nat.reduceAdd, Nat.reduceSub, Nat.reduceLT, Nat.reduceLeDiff, List.replicate_succ, List.replicate_zero, List.append_nil, List.nil_append, List.cons_append, List.set_cons_zero, List.set_cons_succ, List.getElem?_cons_zero, List.getElem?_cons_succ,
  Option.some.injEq, List.cons.injEq, and_true, true_and, and_assoc, reduceCtorEq, L2.V.int.injEq, L2.V.ref.injEq, L2.V.bl.injEq, L2.V.str.injEq, L2.V.ty.injEq, L2.HO.ins.injEq, L2.HO.lst.injEq, L2.HO.tup.injEq, L2.HO.dK.injEq, exists_eq_left', exists_eq_left, exists_eq_right, exists_eq', exists_eq, exists_and_left, exists_and_right, reduceIte, Bool.false_eq_true, Bool.not_true, Bool.not_false,
  L2.tSeq, L2.tIfS, L2.tRet, L2.tRetN, L2.tNext, L2.tAsg, L2.gName, L2.tVar, L2.tC, L2.tCons, L2.tNil, L2.tCB, L2.tOp, L2.tUn, L2.tTup, L2.tLst, L2.tB, L2.tOr, L2.tAnd, L2.tNot, L2.tAndV, L2.tOrV, L2.tNotV, L2.tIf, L2.tTest, L2.tChain, L2.rI, L2.rI0, L2.rU, L2.tDrop, L2.tNever, L2.tCall, L2.tMeth, L2.tMake, L2.rGcd, L2.tFld, L2.sFld, L2.sFldAug, Mx.sFldA, Mx.sFldAugA, L2.rAdd, L2.rSub, L2.rEq, L2.rNe, L2.tDGet, L2.tDIn, L2.tDNotIn, L2.sDPut,
  Mx.isi_int_bool, Mx.isi_int_int, Mx.isi_int_tuple, Mx.isi_int_list, Mx.isi_int_str, Mx.scal_int, Mx.scal_str, Mx.scal_bl, Mx.ofString_inj, Mx.ofString_beq, Mx.lk_cons, Mx.pf_nil, Mx.pf_cons, Mx.sz1, Mx.sz2, List.lookup_nil, String.reduceEq, decide_true, decide_false, decide_eq_true_eq, Int.natAbs_natCast, L2.upd_same, L2.upd_upd, L2.cxOf, L2.gSub, L2.tPar, L2.gCons, L2.gNil, *])

section
variable {X : Cx}
theorem word_gives {g : Addr} {cdg : Value} {q : Str} {k : Nat} {cw : Nat → Addr} {cM : Addr} (B : Blt X.mg) (G : WordG X.mg cw cM) : GivesW X NWd "_law_word" (defScope s_law_word) g cdg (defBody s_law_word) "_law_work" q k (TWord X.K cw cM) := by
  intro f c' s H Q tl act hr hc h
  have nd := sc_law_word.nd
  refine ⟨_, pss_cons (ps_try_as (X := (CxG X NWd "_law_word" (defScope s_law_word) g cdg s H).nox) (i := 1) (c := .ref cM) (ts := tsW X.K cw)
      (tb := fun W => tDrop fun σZ HZ Q => σZ[0]? = some (some (.ref f)) ∧ HZ c' = some (CodeO c' q) ∧ ∃ E : XK, (∀ cls d H', E cls d H' → W cls d σZ H') ∧ tl E HZ Q)
      rfl rfl nd rfl rfl ⟨rfl, by decide, .inl G.gM⟩ L2.takes0 (fun W pn xe tk _ => pss_one (ps_expr (act W pn xe _ _ tk)))
      (fun a oe cls d pn hz hf => (pss_cons (ps_set (i := 2) nd rfl (.inl rfl) (pe_lst (pa_cons (pe_callB (call_isX hz hf) (by rfl) B.isi PyProof.Rows.boot_isinstance (pa_cons (pv 1) (pa_cons (pe_glob (v := .ref (cw 0)) (by rfl) G.g0 rfl) pa_nil))) (pa_cons (pe_callB (call_isX hz hf) (by rfl) B.isi PyProof.Rows.boot_isinstance (pa_cons (pv 1) (pa_cons (pe_glob (v := .ref (cw 1)) (by rfl) G.g1 rfl) pa_nil))) (pa_cons (pe_callB (call_isX hz hf) (by rfl) B.isi PyProof.Rows.boot_isinstance (pa_cons (pv 1) (pa_cons (pe_glob (v := .ref (cw 2)) (by rfl) G.g2 rfl) pa_nil))) (pa_cons (pe_callB (call_isX hz hf) (by rfl) B.isi PyProof.Rows.boot_isinstance (pa_cons (pv 1) (pa_cons (pe_glob (v := .ref (cw 3)) (by rfl) G.g3 rfl) pa_nil))) pa_nil))))))
        (pss_cons (ps_set (i := 2) nd rfl (.inl rfl) (pe_op op_cat (pv 2) (pe_lst (pa_cons (pe_callB (call_isX hz hf) (by rfl) B.isi PyProof.Rows.boot_isinstance (pa_cons (pv 1) (pa_cons (pe_glob (v := .ref (cw 4)) (by rfl) G.g4 rfl) pa_nil))) (pa_cons (pe_callB (call_isX hz hf) (by rfl) B.isi PyProof.Rows.boot_isinstance (pa_cons (pv 1) (pa_cons (pe_glob (v := .ref (cw 5)) (by rfl) G.g5 rfl) pa_nil))) (pa_cons (pe_callB (call_isX hz hf) (by rfl) B.isi PyProof.Rows.boot_isinstance (pa_cons (pv 1) (pa_cons (pe_glob (v := .ref (cw 6)) (by rfl) G.g6 rfl) pa_nil))) pa_nil))))))
        (pss_cons (ps_set (i := 2) nd rfl (.inl rfl) (pe_op op_cat (pv 2) (pe_lst (pa_cons (pe_callB (call_isX hz hf) (by rfl) B.isi PyProof.Rows.boot_isinstance (pa_cons (pv 1) (pa_cons (pe_glob (v := .ref (cw 7)) (by rfl) G.g7 rfl) pa_nil))) (pa_cons (pe_callB (call_isX hz hf) (by rfl) B.isi PyProof.Rows.boot_isinstance (pa_cons (pv 1) (pa_cons (pe_glob (v := .ref (cw 8)) (by rfl) G.g8 rfl) pa_nil))) (pa_cons (pe_callB (call_isX hz hf) (by rfl) B.isi PyProof.Rows.boot_isinstance (pa_cons (pv 1) (pa_cons (pe_glob (v := .ref (cw 9)) (by rfl) G.g9 rfl) pa_nil))) pa_nil))))))
        (pss_cons (ps_set (i := 2) nd rfl (.inl rfl) (pe_op op_cat (pv 2) (pe_lst (pa_cons (pe_callB (call_isX hz hf) (by rfl) B.isi PyProof.Rows.boot_isinstance (pa_cons (pv 1) (pa_cons (pe_glob (v := .ref (cw 10)) (by rfl) G.g10 rfl) pa_nil))) (pa_cons (pe_callB (call_isX hz hf) (by rfl) B.isi PyProof.Rows.boot_isinstance (pa_cons (pv 1) (pa_cons (pe_glob (v := .ref (cw 11)) (by rfl) G.g11 rfl) pa_nil))) (pa_cons (pe_callB (call_isX hz hf) (by rfl) B.isi PyProof.Rows.boot_isinstance (pa_cons (pv 1) (pa_cons (pe_glob (v := .ref (cw 12)) (by rfl) G.g12 rfl) pa_nil))) pa_nil))))))
        (pss_cons (ps_if (PW.pt (pw_or (pt_cmpR op_ne (pe_bm PySem.F.plainAttrs_list PySem.F.slot_list_count PySem.F.type_list_count mt_lcountF (pv 2) (pa_cons pe_bl pa_nil)) pe_int (nomark _)) (pw_or1 (pt_not (pt_val (pe_callB (call_isX hz hf) (by rfl) B.isi PyProof.Rows.boot_isinstance (pa_cons (pv 1) (pa_cons (pe_bltn (v := .ty "ValueError") (by rfl) G.ve PyProof.Rows.Boot.«ValueError» rfl) pa_nil)))))))) (pss_one ps_never) pss_nil)
        (pss_cons (ps_set (i := 3) nd rfl (.inl rfl) (pe_lst (pa_cons pe_str (pa_cons pe_str (pa_cons pe_str (pa_cons pe_str (pa_cons pe_str (pa_cons pe_str (pa_cons pe_str (pa_cons pe_str (pa_cons pe_str (pa_cons pe_str (pa_cons pe_str pa_nil)))))))))))))
        (pss_cons (ps_set (i := 4) nd rfl (.inl rfl) (pe_ix ix_list (pe_op op_cat (pv 3) (pe_lst (pa_cons pe_str (pa_cons pe_str pa_nil)))) (pe_bm PySem.F.plainAttrs_list PySem.F.slot_list_index PySem.F.type_list_index mt_index (pv 2) (pa_cons pe_bl pa_nil)) (fun _ _ => rfl)))
        (pss_cons (ps_if (pt_cmpR op_in_seq (pv 4) (pe_tup (pa_cons pe_str (pa_cons pe_str pa_nil))) rfl) (pss_one (ps_ret (pe_tup (pa_cons (pv 4) (pa_cons (pe_fldE hz hf (pv 1)) pa_nil))))) pss_nil)
        (pss_one (ps_ret (pe_ifExp (pt_cmpR op_eq (pv 4) pe_str (nomark _)) (pe_tup (pa_cons (pv 4) (pa_cons (pe_fldE hz hf (pv 1)) pa_nil))) (pv 4))))))))))))))
    (pss_one (ps_ret pe_str)), ?_⟩
  refine ⟨rfl, hc, Told X.K cw cM Q, fun cls d H' ht => ?_, h⟩
  obtain ⟨j, hj, rfl, J, ht⟩ := ht
  refine ⟨true, J.im, fun _ a ha => ?_, fun z => nomatch z⟩
  have hd : HD d H' := by
    rcases ht with ⟨_, h, _⟩ | ⟨_, dd, n, h, _, e, _⟩
    · exact .inl h
    · exact .inr ⟨dd, _, h, e⟩
  have hsz : (16777216 : Nat) ≤ sizeLine := by rw [sizeLine_eq]; exact Nat.le_refl _
  show tsW X.K cw a (.ref (cw j)) d _ ([some (.ref f), some (.ref a), none, none, none] : L2.St) H'
  simp only [tsW, tSeq, tAsg, tLst, gName, tOp]
  refine tIsA J hd (by decide) rfl ?_
  refine tIsA J hd (by decide) rfl ?_
  refine tIsA J hd (by decide) rfl ?_
  refine tIsA J hd (by decide) rfl ?_
  refine ⟨(by show 4 ≤ _; omega), fun p1 hp1 => ?_⟩
  generalize hh1 : upd H' p1 _ = H1
  have s1 : Stp [] H' H1 := by rw [← hh1]; exact Stp.new hp1
  have e1 : H1 p1 = some (.lst ((kindsV j).take 4)) := by rw [← hh1]; exact upd_same
  have hd1 := hd.st s1
  refine ⟨_, rfl, ?_⟩
  refine tIsA J hd1 (by decide) rfl ?_
  refine tIsA J hd1 (by decide) rfl ?_
  refine tIsA J hd1 (by decide) rfl ?_
  refine ⟨(by show 3 ≤ _; omega), fun q2 hq2 => ?_⟩
  generalize hg2 : upd H1 q2 _ = G2
  have t2 : Stp [] H1 G2 := by rw [← hg2]; exact Stp.new hq2
  have f2 := t2.keep _ _ e1 (by simp)
  have g2 : G2 q2 = some (.lst (((kindsV j).take 7).drop 4)) := by rw [← hg2]; exact upd_same
  refine ⟨_, _, (kindsV j).take 4, ((kindsV j).take 7).drop 4, rfl, rfl, f2, g2, (by show 4 + 3 ≤ _; omega), fun p2 hp2 => ?_⟩
  generalize hh2 : upd G2 p2 _ = H2
  have s2 : Stp [] H' H2 := by rw [← hh2]; exact (s1.trans (t2.trans (Stp.new hp2))).sub (by simp)
  have e2 : H2 p2 = some (.lst ((kindsV j).take 7)) := by rw [← hh2]; exact upd_same
  have hd2 := hd.st s2
  refine ⟨_, rfl, ?_⟩
  refine tIsA J hd2 (by decide) rfl ?_
  refine tIsA J hd2 (by decide) rfl ?_
  refine tIsA J hd2 (by decide) rfl ?_
  refine ⟨(by show 3 ≤ _; omega), fun q3 hq3 => ?_⟩
  generalize hg3 : upd H2 q3 _ = G3
  have t3 : Stp [] H2 G3 := by rw [← hg3]; exact Stp.new hq3
  have f3 := t3.keep _ _ e2 (by simp)
  have g3 : G3 q3 = some (.lst (((kindsV j).take 10).drop 7)) := by rw [← hg3]; exact upd_same
  refine ⟨_, _, (kindsV j).take 7, ((kindsV j).take 10).drop 7, rfl, rfl, f3, g3, (by show 7 + 3 ≤ _; omega), fun p3 hp3 => ?_⟩
  generalize hh3 : upd G3 p3 _ = H3
  have s3 : Stp [] H' H3 := by rw [← hh3]; exact (s2.trans (t3.trans (Stp.new hp3))).sub (by simp)
  have e3 : H3 p3 = some (.lst ((kindsV j).take 10)) := by rw [← hh3]; exact upd_same
  have hd3 := hd.st s3
  refine ⟨_, rfl, ?_⟩
  refine tIsA J hd3 (by decide) rfl ?_
  refine tIsA J hd3 (by decide) rfl ?_
  refine tIsA J hd3 (by decide) rfl ?_
  refine ⟨(by show 3 ≤ _; omega), fun q4 hq4 => ?_⟩
  generalize hg4 : upd H3 q4 _ = G4
  have t4 : Stp [] H3 G4 := by rw [← hg4]; exact Stp.new hq4
  have f4 := t4.keep _ _ e3 (by simp)
  have g4 : G4 q4 = some (.lst (((kindsV j).take 13).drop 10)) := by rw [← hg4]; exact upd_same
  refine ⟨_, _, (kindsV j).take 10, ((kindsV j).take 13).drop 10, rfl, rfl, f4, g4, (by show 10 + 3 ≤ _; omega), fun p4 hp4 => ?_⟩
  generalize hh4 : upd G4 p4 _ = H4
  have s4 : Stp [] H' H4 := by rw [← hh4]; exact (s3.trans (t4.trans (Stp.new hp4))).sub (by simp)
  have e4 : H4 p4 = some (.lst ((kindsV j).take 13)) := by rw [← hh4]; exact upd_same
  have hd4 := hd.st s4
  have ek : H4 p4 = some (.lst (kindsV j)) := e4
  walk_at "rd"
  have hq : SqL X.K H4 p4 (kindsV j) := .inl (.inl ek)
  have fl : (kindsV j).all flatV = true := rfl
  refine ⟨_, rfl, .inl ⟨rfl, _, hq⟩, ?_⟩
  refine ⟨p4, kindsV j, .bl true, rfl, rfl, hq, rfl, fl, ?_⟩
  rw [kinds_cnt j hj]
  refine ⟨rfl, ?_⟩
  rw [if_neg (by decide)]
  refine ⟨cw j, .ty "ValueError", .type "ValueError", true, rfl, J.ex, rfl, fun u hu => hu, J.iv, hd4, _, rfl, ?_⟩
  rw [if_neg (by decide)]
  refine ⟨(by show 11 ≤ _; omega), fun p5 hp5 => ?_⟩
  generalize hh5 : upd H4 p5 _ = H5
  have s5 : Stp [] H4 H5 := by rw [← hh5]; exact Stp.new hp5
  have e5 : H5 p5 = some (.lst (wordsV.take 11)) := by rw [← hh5]; exact upd_same
  refine fun p6 hp6 => ?_
  generalize hh6 : upd H5 p6 _ = H6
  have s6 : Stp [] H5 H6 := by rw [← hh6]; exact Stp.new hp6
  have e6 : H6 p6 = some (.lst (wordsV.drop 11)) := by rw [← hh6]; exact upd_same
  refine ⟨p5, p6, wordsV.take 11, wordsV.drop 11, rfl, rfl, s6.keep _ _ e5 (by simp), e6, (by show 11 + 2 ≤ _; omega), fun p7 hp7 => ?_⟩
  generalize hh7 : upd H6 p7 _ = H7
  have s7 : Stp [] H6 H7 := by rw [← hh7]; exact Stp.new hp7
  have e7 : H7 p7 = some (.lst wordsV) := by rw [← hh7]; exact upd_same
  have s47 : Stp [] H4 H7 := (s5.trans (s6.trans s7)).sub (by simp)
  have ek7 : SqL X.K H7 p4 (kindsV j) := .inl (.inl (s47.keep _ _ ek (by simp)))
  have s07 : Stp [] H' H7 := (s4.trans s47).sub (by simp)
  refine ⟨_, rfl, .inl ⟨rfl, _, ek7⟩, ?_⟩
  refine ⟨p4, kindsV j, .bl true, j, .bl true, rfl, rfl, ek7, rfl, fl, kinds_at j hj, rfl, fun m z' hm hz => ?_, ?_⟩
  · have := kinds_lo j hj m hm
    rw [hz] at this
    simpa using this
  refine ixL (.inl (.inl e7)) (words_at j hj) fun p8 hp8 => ?_
  generalize hh8 : upd H7 p8 _ = H8
  have s8 : Stp [] H7 H8 := by rw [← hh8]; exact Stp.new hp8
  have e8 : H8 p8 = some (.tup [.str "arrivals", .str "deed"]) := by rw [← hh8]; exact upd_same
  have s08 : Stp [] H' H8 := (s07.trans s8).sub (by simp)
  refine ⟨p8, [.str "arrivals", .str "deed"], rfl, .inr (.inl (.inl e8)), rfl, rfl, ?_⟩
  rw [if_neg (by decide), words_in j hj]
  refine ⟨_, rfl, ?_⟩
  by_cases h12 : j = 12
  · subst h12
    rw [if_neg (by decide)]
    refine ⟨rfl, ?_⟩
    rw [if_pos (show V.str (wordsR.getD 12 Str.empty) = V.str "text" from rfl)]
    rcases ht with ⟨h, _⟩ | ⟨_, dd, n, rfl, T, ed, k⟩
    · omega
    · exact ⟨_, rfl, rfl, cw 12, dd, .int n, rfl, T, rfl, s08.keep _ _ ed (by simp), fun p hp => k p _ ((s08.trans (Stp.new hp)).sub (by simp)) upd_same⟩
  · by_cases hg : j = 10 ∨ j = 11
    · rw [if_pos (decide_eq_true hg)]
      rcases ht with ⟨h, _⟩ | ⟨_, dd, n, rfl, T, ed, k⟩
      · omega
      · rw [if_neg h12] at T ed
        exact ⟨_, rfl, rfl, cw j, dd, .int n, rfl, T, rfl, s08.keep _ _ ed (by simp), fun p hp => k p _ ((s08.trans (Stp.new hp)).sub (by simp)) upd_same⟩
    · rw [if_neg (by simpa using hg)]
      refine ⟨rfl, ?_⟩
      rcases ht with ⟨_, rfl, k⟩ | ⟨h, _⟩
      · have tx := words_tx j hj
        rw [decide_eq_false h12] at tx
        rw [if_neg (by simpa using tx)]
        exact k _ s08
      · omega
end
end Mx

namespace Mx
open PySem L2 TL LamX
set_option hygiene false in
local macro_rules | `(tactic| walk_at "rd") => `(tactic| try simp only [L2.start, List.map_cons, List.map_nil, List.length_cons, List.length_nil, Nat.reduceAdd, Nat.reduceSub, Nat.reduceLT, Nat.reduceLeDiff, List.replicate_succ, List.replicate_zero, List.append_nil, List.nil_append, List.cons_append, List.set_cons_zero, List.set_cons_succ, List.getElem?_cons_zero, List.getElem?_cons_succ,
  Option.some.injEq, List.cons.injEq, and_true, true_and, and_assoc, reduceCtorEq, L2.V.int.injEq, L2.V.ref.injEq, L2.V.bl.injEq, L2.V.str.injEq, L2.V.ty.injEq, L2.HO.ins.injEq, L2.HO.lst.injEq, L2.HO.tup.injEq, L2.HO.dK.injEq, exists_eq_left', exists_eq_left, exists_eq_right, exists_eq', exists_eq, exists_and_left, exists_and_right, reduceIte, Bool.false_eq_true, Bool.not_true, Bool.not_false,
  L2.tSeq, L2.tIfS, L2.tRet, L2.tRetN, L2.tNext, L2.tAsg, L2.gName, L2.tVar, L2.tC, L2.tCons, L2.tNil, L2.tCB, L2.tOp, L2.tUn, L2.tTup, L2.tLst, L2.tB, L2.tOr, L2.tAnd, L2.tNot, L2.tAndV, L2.tOrV, L2.tNotV, L2.tIf, L2.tTest, L2.tChain, L2.rI, L2.rI0, L2.rU, L2.tDrop, L2.tNever, L2.tCall, L2.tMeth, L2.tMake, L2.rGcd, L2.tFld, L2.sFld, L2.sFldAug, Mx.sFldA, Mx.sFldAugA, L2.rAdd, L2.rSub, L2.rEq, L2.rNe, L2.tDGet, L2.tDIn, L2.tDNotIn, L2.sDPut,
  Mx.isi_int_bool, Mx.isi_int_int, Mx.isi_int_tuple, Mx.isi_int_list, Mx.isi_int_str, Mx.scal_int, Mx.scal_str, Mx.scal_bl, Mx.ofString_inj, Mx.ofString_beq, Mx.lk_cons, Mx.pf_nil, Mx.pf_cons, Mx.sz1, Mx.sz2, List.lookup_nil, String.reduceEq, decide_true, decide_false, decide_eq_true_eq, Int.natAbs_natCast, L2.upd_same, L2.upd_upd, L2.cxOf, L2.gSub, L2.tPar, L2.gCons, L2.gNil, L2.tSl, L2.tPart, L2.rSlL, L2.gStar1, L2.tKGet2, L2.tNoPart, L2.tM1])
set_option hygiene false in
local macro_rules | `(tactic| walk_at "rds") => `(tactic| try simp only [L2.start, List.map_cons, List.map_nil, List.length_cons, List.length_nil, Nat.reduceAdd, Nat.reduceSub, Nat.reduceLT, Nat.reduceLeDiff, List.replicate_succ, List.replicate_zero, List.append_nil, List.nil_append, List.cons_append, List.set_cons_zero, List.set_cons_succ, List.getElem?_cons_zero, List.getElem?_cons_succ,
  Option.some.injEq, List.cons.injEq, and_true, true_and, and_assoc, reduceCtorEq, L2.V.int.injEq, L2.V.ref.injEq, L2.V.bl.injEq, L2.V.str.injEq, L2.V.ty.injEq, L2.HO.ins.injEq, L2.HO.lst.injEq, L2.HO.tup.injEq, L2.HO.dK.injEq, exists_eq_left', exists_eq_left, exists_eq_right, exists_eq', exists_eq, exists_and_left, exists_and_right, reduceIte, Bool.false_eq_true, Bool.not_true, Bool.not_false,
  L2.tSeq, L2.tIfS, L2.tRet, L2.tRetN, L2.tNext, L2.tAsg, L2.gName, L2.tVar, L2.tC, L2.tCons, L2.tNil, L2.tCB, L2.tOp, L2.tUn, L2.tTup, L2.tLst, L2.tB, L2.tOr, L2.tAnd, L2.tNot, L2.tAndV, L2.tOrV, L2.tNotV, L2.tIf, L2.tTest, L2.tChain, L2.rI, L2.rI0, L2.rU, L2.tDrop, L2.tNever, L2.tCall, L2.tMeth, L2.tMake, L2.rGcd, L2.tFld, L2.sFld, L2.sFldAug, Mx.sFldA, Mx.sFldAugA, L2.rAdd, L2.rSub, L2.rEq, L2.rNe, L2.tDGet, L2.tDIn, L2.tDNotIn, L2.sDPut,
  Mx.isi_int_bool, Mx.isi_int_int, Mx.isi_int_tuple, Mx.isi_int_list, Mx.isi_int_str, Mx.scal_int, Mx.scal_str, Mx.scal_bl, Mx.ofString_inj, Mx.ofString_beq, Mx.lk_cons, Mx.pf_nil, Mx.pf_cons, Mx.sz1, Mx.sz2, List.lookup_nil, String.reduceEq, decide_true, decide_false, decide_eq_true_eq, Int.natAbs_natCast, L2.upd_same, L2.upd_upd, L2.cxOf, L2.gSub, L2.tPar, L2.gCons, L2.gNil, L2.tSl, L2.tPart, L2.rSlL, L2.gStar1, L2.tKGet2, L2.tNoPart, L2.tM1, *])

/-! ### read, that may refuse -/
structure OwnX (P : Program) (w : World) (K : PySem.W.Frag) (mg : Str → Option Value) (base : Heap) (x : Str) (k : Nat) (ps : List Str) (sp : Sp) : Prop where
  ex : ∃ (f : Addr) (fd : FuncData), FnOk P w K mg base (L2.CX P w) k f fd ps sp ∧ mg x = some (.ref f) ∧ PySem.W.keepIn K (.ref f) = true ∧ Binds K fd ps []
theorem p_callX {X : Cx} {x : Str} {k : Nat} {ps : List Str} {sp : Sp} {p pos : Pos} {e : Expr} {es : List Expr} {t : TA} {W : WX} (G : OwnX X.prog X.w X.K X.mg X.base x k ps sp) (tk : Takes X W) (hr : Room k X.A) (ha : PA X (e :: es) t) (hg : Gl X x := by rfl) (hdb : (x == ("__debug__" : Str)) = false := by decide)
    (he : starEach (e :: es) X.env = (false, eval e X.env) :: starEach es X.env := by rfl) (hpl : (backTo pos (starEach es X.env)).any (·.1) = false := by rfl) :
    PE X (.Call (.Name x p) (e :: es) [] pos) (tCallS sp (fun σ cls d H => W cls d σ H) t) := by
  obtain ⟨f, fd, G, hm, hk, hb⟩ := G.ex
  exact pe_callS G hr hg hm hk hb (fun σ => passAt tk σ) ha hdb he hpl
def badR (rows : List Str) (i : Nat) : Bool := decide (300 ≤ i) || !okD (rdRow (rows.getD i Str.empty))
def firstBad (rows : List Str) : Option Nat := (List.range rows.length).find? (badR rows)
theorem first_some {rows : List Str} {i : Nat} (hi : i < rows.length) (hb : badR rows i = true) (hn : ∀ j < i, badR rows j = false) : firstBad rows = some i := by
  unfold firstBad
  rw [List.find?_range_eq_some]
  exact ⟨hb, List.mem_range.mpr hi, fun j hj => by rw [hn j hj]; rfl⟩
theorem first_none {rows : List Str} (hn : ∀ j < rows.length, badR rows j = false) : firstBad rows = none := by
  unfold firstBad
  rw [List.find?_range_eq_none]
  exact fun j hj => by rw [hn j hj]; rfl
theorem rd_len {z : Str} (h : z.length ≤ 90000) : (rdRow z).rs.length ≤ 100000 ∧ ∀ xs, Sum.inr xs ∈ (rdRow z).rs → xs.length ≤ 100000 := by
  have hsb := split_bound (x := z) (y := " ") (s := 32) tl_sp (by decide +kernel)
  unfold rdRow
  show (rdParts (Txt.split z " ")).length ≤ 100000 ∧ ∀ xs, Sum.inr xs ∈ rdParts (Txt.split z " ") → xs.length ≤ 100000
  generalize Txt.split z " " = W at *
  unfold rdParts
  split
  · rename_i hp
    refine ⟨by rw [List.length_set, List.length_map, List.length_drop]; omega, fun xs hx => ?_⟩
    rcases List.mem_or_eq_of_mem_set hx with hx | hx
    · obtain ⟨u, _, e⟩ := List.mem_map.mp hx
      cases e
    · cases hx
      have hl : 3 < W.length := by have := hp.2; rw [List.length_drop] at this; omega
      have hm : W.getD 3 Str.empty ∈ W := by rw [List.getD_eq_getElem?_getD, List.getElem?_eq_getElem hl]; exact List.getElem_mem hl
      have h2 := hsb.2 _ hm
      have h3 := (split_bound (x := W.getD 3 Str.empty) (y := ",") (s := 44) tl_com (by decide +kernel)).1
      rw [List.length_map]
      omega
  · refine ⟨by rw [List.length_map, List.length_drop]; omega, fun xs hx => ?_⟩
    obtain ⟨u, _, e⟩ := List.mem_map.mp hx
    cases e
theorem rows_len {z : Str} (h : z.length ≤ 90000) : (rowsOf z).length ≤ 90001 ∧ ∀ y ∈ rowsOf z, y.length ≤ 90000 := by
  unfold rowsOf
  split
  · exact ⟨Nat.zero_le _, fun y hy => by cases hy⟩
  · have := split_bound (x := z) (y := "\n") (s := 10) tl_nl (by decide +kernel)
    exact ⟨Nat.le_trans this.1 (by omega), fun y hy => Nat.le_trans (this.2 y hy) h⟩
section
variable {P : Program} {w : World} {K : PySem.W.Frag} {mg : Str → Option Value} {base : Heap}
def sp_readX (K : PySem.W.Frag) (CT : Addr) : Sp := fun vs H Q E => ∃ z : Str, vs = [.str z] ∧ z.length ≤ 90000 ∧
  (firstBad (rowsOf z) = none → ∀ H' D ps, Stp [] H H' → H D = none → H' D = some (.lst (ps.map V.ref)) → DDs K H' ((rowsOf z).map rdRow) ps → Q (.ref D) H') ∧
  (∀ i, firstBad (rowsOf z) = some i → ∀ H' d, Stp [] H H' → H' d = some (.xd [("row", .int (i : Nat))]) → E (.ref CT) (some d) H')
theorem ok_readX {f : Addr} {fd : FuncData} (F : Fun K "read" "read" s_read f fd) (B : Blt mg) {tm : Tok} (hM : mg "MOST_DEEDS" = some (.int 300 tm)) {CT fI : Addr} (TT : PySem.MxX.NumR P K CT fI "BadText.__init__" "row " " writes no deed") (gT : mg "BadText" = some (.ref CT)) (hsup : mg "super" = none) (GD : OwnF P w K mg base "deed_of" 2 ["row"] (sp_deed_of K)) (GI : OwnF P w K mg base "is_deed" 3 ["deed"] (sp_is_deedR K)) : FnOk P w K mg base (L2.CX P w) 4 f fd ["text"] (sp_readX K CT) := by
  refine F.okX sc_read (fun vs H Q E h => ?_) (fun cdv A outer s H vs Q E hr h => ?_)
  · obtain ⟨z, rfl, _⟩ := h
    rfl
  · obtain ⟨z, rfl, hz, k, kE⟩ := h
    obtain ⟨hl, hk⟩ := rows_len hz
    have nd := sc_read.nd
    have r2 := hr.mono (show 2 ≤ 3 by decide)
    refine ⟨_, pss_cons (ps_set (i := 1) nd rfl (.inl rfl) (pe_weak (pe_ifExp (pt_cmpR op_eq (pv 0) pe_str (nomark _)) (pe_lst pa_nil) (pe_split (pv 0) pe_str)) (rows_weak z)))
      (pss_cons (ps_setLc (i := 2) (own := [("row", 5)]) (te := tCall (sp_deed_of K) [] E0 (tCons (tVar 5) tNil)) rfl nd rfl rfl (sw_true rfl rfl rfl (by decide +kernel)) (pi_list (pv 1)) (blkOk_by (N := ["text", "rows", "deeds", "number", "deed", "row"]) (sc := defScope s_read) (by decide +kernel)) (fun _ _ _ _ _ => pg_name (i := 5) nd rfl (.inl rfl)) (fun _ _ _ _ _ => pts_nil) (fun _ _ _ _ _ => p_call GD r2 (pa_cons (pv 5) pa_nil)))
      (pss_cons (ps_for (passes_of rfl) rfl (pi_enum (by rfl) B.enumerate (pa_cons (pv 2) pa_nil)) (pg_tup rfl (pgs_cons (pg_name (i := 3) nd rfl (.inl rfl)) (pgs_cons (pg_name (i := 4) nd rfl (.inl rfl)) pgs_nil))) (pss_one (ps_if (PW.pt (pw_or (pt_cmpR op_ge (pv 3) (pe_glob (v := .int 300) (by rfl) hM ⟨_, rfl⟩) (nomark _)) (pw_or1 (pt_not (pt_val (p_call GI hr (pa_cons (pv 4) pa_nil))))))) (pss_one (ps_raiseR rfl TT gT hsup (by decide) (by decide) hr (takes_of rfl rfl rfl rfl) (pa_cons (pv 3) pa_nil))) pss_nil)))
      (pss_one (ps_ret (pv 2))))), ?_⟩
    have hsl : (1000002 : Nat) ≤ sizeLine := by decide
    refine ⟨rfl, by omega, fun H1 p1 s1 h1 => ?_⟩
    walk_at "rd"
    refine lc_relLv (xs := (rowsOf z).map V.str) (R := fun H j y => ∃ p, y = .ref p ∧ ∃ d, ((rowsOf z).map rdRow)[j]? = some d ∧ d.at K H p) rfl h1 (by rw [List.length_map]; omega) (fun F' H2 H3 j y h s => ?_) (fun j x H2 hj s2 Q' q => ?_) (fun D H2 ys hD s2 h2 hp => ?_)
    · obtain ⟨p, e, d, h3, h4⟩ := h
      exact ⟨p, e, d, h3, h4.st s⟩
    · rw [List.getElem?_map] at hj
      obtain ⟨u, hu, rfl⟩ := Option.map_eq_some_iff.mp hj
      have hm := hk u (List.mem_of_getElem? hu)
      exact ⟨_, rfl, u, rfl, by omega, fun H3 p s3 hp hd => q _ H3 ⟨p, rfl, _, by rw [List.getElem?_map, hu]; rfl, hd⟩ s3⟩
    obtain ⟨ps, rfl, hps⟩ := refs_of hp
    rw [List.length_map, ← List.length_map (f := rdRow)] at hps
    have hdd : DDs K H2 ((rowsOf z).map rdRow) ps := pr_of_ix _ hps
    have hlen := hdd.length
    rw [List.length_map] at hlen
    have s02 := s1.trans s2
    refine ⟨_, rfl, D, _, rfl, .inl (.inl h2), for_enum (K := K) (a := D) (xs := ps.map V.ref) (fun i σ H3 => ∃ v1 v2, σ = [some (.str z), some (.ref p1), some (.ref D), v1, v2, none] ∧ Stp [] H2 H3 ∧ ∀ j < i, badR (rowsOf z) j = false) ⟨_, _, rfl, Stp.refl, fun j hj => absurd hj (by omega)⟩ (fun i σ H3 _ h => ?_) (fun i x σ H3 T hi h hT => ?_) (fun σ H3 h => ?_)⟩
    · obtain ⟨_, _, _, s3, _⟩ := h
      exact .inl (.inl (s3.keep _ _ h2 (by simp)))
    · obtain ⟨v1, v2, rfl, s3, hb⟩ := h
      rw [List.getElem?_map] at hi
      obtain ⟨p, hn, rfl⟩ := Option.map_eq_some_iff.mp hi
      have hil := (List.getElem?_eq_some_iff.mp hn).1
      obtain ⟨d, p', hd1, hd2, hda⟩ := pr_get hdd i (by rw [List.length_map]; omega) hil
      rw [hn] at hd2
      cases hd2
      rw [List.getElem?_map] at hd1
      obtain ⟨u, hu, rfl⟩ := Option.map_eq_some_iff.mp hd1
      have hgu : (rowsOf z).getD i Str.empty = u := by rw [List.getD_eq_getElem?_getD, hu]; rfl
      have hlu := hk u (List.mem_of_getElem? hu)
      have hi2 : i < (rowsOf z).length := by omega
      have s4 := Stp.new (o := .tup [.int (i : Nat), .ref p]) hT
      refine ⟨T, _, rfl, .inl (.inl upd_same), rfl, ?_⟩
      have raise : ∀ H5, Stp [] H2 H5 → badR (rowsOf z) i = true → ∃ n : Int, [V.int (i : Nat)] = [.int n] ∧ 0 ≤ n ∧ n < 100000 ∧ ∀ d, H5 d = none → E (.ref CT) (some d) (upd H5 d (.xd [(("row" : Str), .int n)])) := fun H5 s5 hbi => ⟨_, rfl, by omega, by omega, fun d hd =>
        kE i (first_some hi2 hbi hb) _ d ((s02.trans (s5.trans (Stp.new hd))).sub (by simp)) upd_same⟩
      walk_at "rd"
      by_cases h300 : 300 ≤ i
      · rw [if_pos (show (300 : Int) ≤ (i : Int) by omega)]
        exact ⟨_, rfl, raise _ ((s3.trans s4).sub (by simp)) (by unfold badR; rw [decide_eq_true h300]; rfl)⟩
      rw [if_neg (show ¬ (300 : Int) ≤ (i : Int) by omega)]
      refine ⟨p, rdRow u, rfl, (hda.st s3).st s4, (rd_len hlu).1, (rd_len hlu).2, fun H5 s5 => ⟨_, rfl, ?_⟩⟩
      have eb : badR (rowsOf z) i = !okD (rdRow u) := by unfold badR; rw [decide_eq_false h300, hgu]; rfl
      cases hok : okD (rdRow u) with
      | true =>
        refine iteF ⟨((s3.trans s4).trans s5).sub (by simp), fun j hj => ?_⟩
        rcases Nat.lt_succ_iff_lt_or_eq.mp hj with hj | rfl
        · exact hb j hj
        · rw [eb, hok]; rfl
      | false =>
        refine iteT ⟨_, rfl, raise _ (((s3.trans s4).trans s5).sub (by simp)) (by rw [eb, hok]; rfl)⟩
    · obtain ⟨v1, v2, rfl, s3, hb⟩ := h
      rw [List.length_map] at hb
      exact ⟨_, rfl, k (first_none fun j hj => hb j (by omega)) H3 D ps ((s02.trans s3).sub (by simp)) (s1.free hD (by simp)) (s3.keep _ _ h2 (by simp)) (hdd.st s3)⟩
end
end Mx

namespace Mx
open PySem L2 TL LamX
theorem cut_from (z : Str) (n : Nat) : tl (cutS z (some (n : Int)) none) = (tl z).drop n := by
  show ((tl z).drop (HT.sIx z.length 0 (some (n : Int)))).take (HT.sIx z.length z.length none - HT.sIx z.length 0 (some (n : Int))) = _
  have e : HT.sIx z.length 0 (some (n : Int)) = min n z.length := by
    unfold HT.sIx
    simp
    omega
  have e2 : HT.sIx z.length z.length none = z.length := rfl
  rw [e, e2]
  have hl : (tl z).length = z.length := (len_tl z).symm
  by_cases h : n ≤ z.length
  · rw [Nat.min_eq_left h, List.take_of_length_le (by rw [List.length_drop]; omega)]
  · rw [Nat.min_eq_right (by omega), List.drop_of_length_le (show (tl z).length ≤ n by omega), Nat.sub_self, List.take_zero]
theorem cut_upto (z : Str) (n : Nat) : tl (cutS z none (some (n : Int))) = (tl z).take n := by
  show ((tl z).drop (HT.sIx z.length 0 none)).take (HT.sIx z.length z.length (some (n : Int)) - HT.sIx z.length 0 none) = _
  have e0 : HT.sIx z.length 0 none = 0 := rfl
  have e : HT.sIx z.length z.length (some (n : Int)) = min n z.length := by
    unfold HT.sIx
    simp
    omega
  rw [e0, e, List.drop_zero, Nat.sub_zero, List.take_eq_take_iff, len_tl]
  omega
theorem cut_neg (z : Str) : decide (cutS z none (some 1) = Str.ofString "-") = neg? (tl z) := by
  have hm : tl (Str.ofString "-") = [45] := by rw [tl_ofString]; rfl
  have hc := cut_upto z 1
  rw [Bool.eq_iff_iff]
  constructor
  · intro h
    have h' := of_decide_eq_true h
    have h2 : (tl z).take 1 = [45] := by rw [← hc, ← hm]; exact congrArg tl h'
    cases hz : tl z with
    | nil => rw [hz] at h2; cases h2
    | cons c r =>
      rw [hz] at h2
      have : c = 45 := by simpa using h2
      subst this
      rfl
  · intro h
    have e := figs_neg h
    refine decide_eq_true ?_
    rw [show cutS z none (some 1) = Str.ofString "-" from ext_tl (by rw [hm]; refine Eq.trans hc ?_; rw [e]; rfl)]
theorem cut_figs (z : Str) : tl (cutS z (some (if neg? (tl z) = true then 1 else 0)) none) = figs (tl z) := by
  cases h : neg? (tl z) with
  | true =>
    rw [if_pos rfl]
    refine (cut_from z 1).trans ?_
    conv => lhs; rw [figs_neg h]
    rfl
  | false =>
    rw [if_neg (by decide)]
    refine (cut_from z 0).trans ?_
    rw [figs_pos h]
    rfl
/-- signs below 128 alone -/
def Sml (z : Str) : Prop := ∀ c ∈ tl z, c < 128
theorem spl_mem (s : Nat) : ∀ (L acc : List Nat), ∀ w ∈ spl [s] 0 acc L, ∀ c ∈ w, c ∈ acc ∨ c ∈ L
  | [], acc => by
    rw [spl_nil]
    intro w hw c hc
    rw [List.mem_singleton.mp hw] at hc
    exact .inl hc
  | d :: r, acc => by
    by_cases h : pre [s] (d :: r) = true
    · rw [spl_hit h]
      intro w hw c hc
      rcases List.mem_cons.mp hw with rfl | hw
      · exact .inl hc
      · rcases spl_mem s r [] w hw c hc with h | h
        · cases h
        · exact .inr (List.mem_cons_of_mem _ h)
    · have h' : pre [s] (d :: r) = false := by simpa using h
      rw [spl_miss h']
      intro w hw c hc
      rcases spl_mem s r _ w hw c hc with h | h
      · rcases List.mem_append.mp h with h | h
        · exact .inl h
        · rw [List.mem_singleton.mp h]; exact .inr List.mem_cons_self
      · exact .inr (List.mem_cons_of_mem _ h)
theorem Sml.split {x y : Str} {s : Nat} (h : Sml x) (hy : tl y = [s]) (hk : y.cps.all (· < 256) = true) : ∀ w ∈ Txt.split x y, Sml w := by
  have e := split_spl x y (by rw [hy]; simp) (kind_ok hk)
  rw [hy] at e
  intro w hw c hc
  rcases spl_mem s (tl x) [] (tl w) (by rw [← e]; exact List.mem_map.mpr ⟨w, hw, rfl⟩) c hc with h2 | h2
  · cases h2
  · exact h c h2
theorem one_ok {c : Nat} (h : c < 128) : PyData.strOk ⟨#[c]⟩ = true := ok_small (fun d hd => by
  have : d = c := by simpa [tl] using hd
  omega)
def low? (lo : Int) (o : Option Int) : Option Int := match o with
  | some i => if lo ≤ i then some i else none
  | none => none
set_option hygiene false in
local macro_rules | `(tactic| walk_at "rd") => `(tactic| try simp only [L2.start, List.map_cons, List.map_nil, List.length_cons, List.length_nil, Nat.reduceAdd, Nat.reduceSub, Nat.reduceLT, Nat.reduceLeDiff, List.replicate_succ, List.replicate_zero, List.append_nil, List.nil_append, List.cons_append, List.set_cons_zero, List.set_cons_succ, List.getElem?_cons_zero, List.getElem?_cons_succ,
  Option.some.injEq, List.cons.injEq, and_true, true_and, and_assoc, reduceCtorEq, L2.V.int.injEq, L2.V.ref.injEq, L2.V.bl.injEq, L2.V.str.injEq, L2.V.ty.injEq, L2.HO.ins.injEq, L2.HO.lst.injEq, L2.HO.tup.injEq, L2.HO.dK.injEq, exists_eq_left', exists_eq_left, exists_eq_right, exists_eq', exists_eq, exists_and_left, exists_and_right, reduceIte, Bool.false_eq_true, Bool.not_true, Bool.not_false,
  L2.tSeq, L2.tIfS, L2.tRet, L2.tRetN, L2.tNext, L2.tAsg, L2.gName, L2.tVar, L2.tC, L2.tCons, L2.tNil, L2.tCB, L2.tOp, L2.tUn, L2.tTup, L2.tLst, L2.tB, L2.tOr, L2.tAnd, L2.tNot, L2.tAndV, L2.tOrV, L2.tNotV, L2.tIf, L2.tTest, L2.tChain, L2.rI, L2.rI0, L2.rU, L2.tDrop, L2.tNever, L2.tCall, L2.tMeth, L2.tMake, L2.rGcd, L2.tFld, L2.sFld, L2.sFldAug, Mx.sFldA, Mx.sFldAugA, L2.rAdd, L2.rSub, L2.rEq, L2.rNe, L2.tDGet, L2.tDIn, L2.tDNotIn, L2.sDPut,
  Mx.isi_int_bool, Mx.isi_int_int, Mx.isi_int_tuple, Mx.isi_int_list, Mx.isi_int_str, Mx.scal_int, Mx.scal_str, Mx.scal_bl, Mx.ofString_inj, Mx.ofString_beq, Mx.lk_cons, Mx.pf_nil, Mx.pf_cons, Mx.sz1, Mx.sz2, List.lookup_nil, String.reduceEq, decide_true, decide_false, decide_eq_true_eq, Int.natAbs_natCast, L2.upd_same, L2.upd_upd, L2.cxOf, L2.gSub, L2.tPar, L2.gCons, L2.gNil, L2.tSl, L2.tPart, L2.rSlS, L2.tNoPart, L2.tM1])
set_option hygiene false in
local macro_rules | `(tactic| walk_at "rds") => `(tactic| try simp only [L2.start, List.map_cons, List.map_nil, List.length_cons, List.length_nil, Nat.reduceAdd, Nat.reduceSub, Nat.reduceLT, Nat.reduceLeDiff, List.replicate_succ, List.replicate_zero, List.append_nil, List.nil_append, List.cons_append, List.set_cons_zero, List.set_cons_succ, List.getElem?_cons_zero, List.getElem?_cons_succ,
  Option.some.injEq, List.cons.injEq, and_true, true_and, and_assoc, reduceCtorEq, L2.V.int.injEq, L2.V.ref.injEq, L2.V.bl.injEq, L2.V.str.injEq, L2.V.ty.injEq, L2.HO.ins.injEq, L2.HO.lst.injEq, L2.HO.tup.injEq, L2.HO.dK.injEq, exists_eq_left', exists_eq_left, exists_eq_right, exists_eq', exists_eq, exists_and_left, exists_and_right, reduceIte, Bool.false_eq_true, Bool.not_true, Bool.not_false,
  L2.tSeq, L2.tIfS, L2.tRet, L2.tRetN, L2.tNext, L2.tAsg, L2.gName, L2.tVar, L2.tC, L2.tCons, L2.tNil, L2.tCB, L2.tOp, L2.tUn, L2.tTup, L2.tLst, L2.tB, L2.tOr, L2.tAnd, L2.tNot, L2.tAndV, L2.tOrV, L2.tNotV, L2.tIf, L2.tTest, L2.tChain, L2.rI, L2.rI0, L2.rU, L2.tDrop, L2.tNever, L2.tCall, L2.tMeth, L2.tMake, L2.rGcd, L2.tFld, L2.sFld, L2.sFldAug, Mx.sFldA, Mx.sFldAugA, L2.rAdd, L2.rSub, L2.rEq, L2.rNe, L2.tDGet, L2.tDIn, L2.tDNotIn, L2.sDPut,
  Mx.isi_int_bool, Mx.isi_int_int, Mx.isi_int_tuple, Mx.isi_int_list, Mx.isi_int_str, Mx.scal_int, Mx.scal_str, Mx.scal_bl, Mx.ofString_inj, Mx.ofString_beq, Mx.lk_cons, Mx.pf_nil, Mx.pf_cons, Mx.sz1, Mx.sz2, List.lookup_nil, String.reduceEq, decide_true, decide_false, decide_eq_true_eq, Int.natAbs_natCast, L2.upd_same, L2.upd_upd, L2.cxOf, L2.gSub, L2.tPar, L2.gCons, L2.gNil, L2.tSl, L2.tPart, L2.rSlS, L2.tNoPart, L2.tM1, *])

section
variable {P : Program} {w : World} {K : PySem.W.Frag} {mg : Str → Option Value} {base : Heap}
def rNotSign : R2 := fun x y H Q => ∃ (c : Nat) (z : Str), x = .str ⟨#[c]⟩ ∧ y = .str z ∧ Q (.bl (!decide (c ∈ z.cps.toList))) H
def rInt1 : List V → Hp → VK → Prop := fun xs H Q => (∃ i, xs = [.int i] ∧ Q (.int i) H) ∨ ∃ k, xs = [.bl k] ∧ Q (.int (if k then 1 else 0)) H
theorem call_int1A {X : Cx} : CallR X (.type "int") rInt1 := call_int1
theorem pr_app0 {α β : Type} {R : α → β → Prop} : ∀ {xs xs' : List α} {ys : List β}, Paired R (xs ++ xs') ys → ∃ y1 y2, ys = y1 ++ y2 ∧ Paired R xs y1 ∧ Paired R xs' y2
  | [], _, ys, h => ⟨[], ys, rfl, .nil, h⟩
  | x :: r, xs', _, .cons (b := y) h t => by
    obtain ⟨y1, y2, e, h1, h2⟩ := pr_app0 t
    exact ⟨y :: y1, y2, by rw [e]; rfl, .cons h h1, h2⟩
theorem pr_filter {l : List Nat} {p : Nat → Bool} : ∀ {n : Nat} {ys : List V}, n ≤ l.length → Paired (fun (j : Nat) y => ∃ c, l[j]? = some c ∧ y = V.str ⟨#[c]⟩) ((List.range n).filter fun j => p (l.getD j 0)) ys → ys = ((l.take n).filter p).map fun c => V.str ⟨#[c]⟩
  | 0, ys, _, h => by
    have h' : Paired (fun (j : Nat) y => ∃ c, l[j]? = some c ∧ y = V.str ⟨#[c]⟩) [] ys := h
    cases h'
    rfl
  | n + 1, ys, hn, h => by
    have hl : n < l.length := by omega
    rw [List.range_succ, List.filter_append] at h
    obtain ⟨a, b, rfl, ha, hb⟩ := pr_app0 h
    rw [pr_filter (by omega) ha, List.take_add_one, List.filter_append, List.map_append]
    congr 1
    rw [List.getElem?_eq_getElem hl]
    have eg : l.getD n 0 = l[n] := by rw [List.getD_eq_getElem?_getD, List.getElem?_eq_getElem hl]; rfl
    cases hp : p l[n] with
    | true =>
      rw [List.filter_cons_of_pos (by rw [eg, hp])] at hb
      cases hb with
      | cons h0 ht =>
      cases ht
      obtain ⟨c, h1, h2⟩ := h0
      rw [List.getElem?_eq_getElem hl] at h1
      cases h1
      subst h2
      show _ = List.map _ (List.filter p [l[n]])
      rw [List.filter_cons_of_pos hp]
      rfl
    | false =>
      rw [List.filter_cons_of_neg (by rw [eg, hp]; decide)] at hb
      cases hb
      show _ = List.map _ (List.filter p [l[n]])
      rw [List.filter_cons_of_neg (by rw [hp]; decide)]
      rfl
theorem lc_strF {z : Str} {i j0 : Nat} {tt : TT} {te : TE} {σ : L2.St} {H1 : Hp} {Q : VK} (p : Nat → Bool) (hj : σ[j0]? = some (some (.str z))) (hn : z.length ≤ 100000)
    (ht : ∀ c H, c ∈ tl z → Stp [] H1 H → ∀ Q' : Bool → Hp → Prop, Q' (p c) H → tt ((wipe σ [i]).set i (some (.str ⟨#[c]⟩))) H Q') (he : ∀ c H, c ∈ tl z → Stp [] H1 H → ∀ Q' : VK, Q' (.str ⟨#[c]⟩) H → te ((wipe σ [i]).set i (some (.str ⟨#[c]⟩))) H Q')
    (k : ∀ D H', H1 D = none → Stp [] H1 H' → H' D = some (.lst (((tl z).filter p).map fun c => V.str ⟨#[c]⟩)) → Q (.ref D) H') : tLc (iStr (tVar j0)) (gName i) tt te [i] σ H1 Q := by
  refine ⟨_, hj, z, rfl, ?_⟩
  exact lc_rel (H9 := H1) (i := i) (tt := tt) (te := te) (σ := σ) (Q := Q) (walk_str (z := z)) (F := []) (Z := fun _ => True) (R := fun _ j y => ∃ c, (tl z)[j]? = some c ∧ y = .str ⟨#[c]⟩) (p := fun j => p ((tl z).getD j 0)) (YX := fun j x => ∃ c, (tl z)[j]? = some c ∧ x = .str ⟨#[c]⟩) trivial (by simp) (fun _ _ _ _ _ _ _ => trivial) (fun _ _ _ => trivial) (fun _ _ _ _ _ h _ => h) hn
    (fun j H2 x H3 hj h => by
      refine ⟨h.1, ?_⟩
      obtain ⟨_, c, h1, h2⟩ := h
      exact ⟨c, by show z.cps.toList[j]? = some c; rw [Array.getElem?_toList]; exact h1, h2⟩)
    (fun j x H2 hj hx _ s2 Q' q => by
      obtain ⟨c, hc, rfl⟩ := hx
      have eg : (tl z).getD j 0 = c := by rw [List.getD_eq_getElem?_getD, hc]; rfl
      have q' := q H2 trivial s2 Stp.refl
      rw [eg] at q'
      exact ht c H2 (List.mem_of_getElem? hc) s2 Q' q')
    (fun j x H2 hj hx hp _ s2 Q' q => by
      obtain ⟨c, hc, rfl⟩ := hx
      exact he c H2 (List.mem_of_getElem? hc) s2 Q' (q _ H2 ⟨c, hc, rfl⟩ trivial s2 Stp.refl))
    (fun D H2 ys hD _ s2 h2 hp => by
      have e := pr_filter (l := tl z) (p := p) (n := z.length) (by rw [len_tl]; exact Nat.le_refl _) hp
      rw [len_tl, List.take_length] at e
      subst e
      exact k D H2 hD s2 h2)
abbrev NFg : List Str := ["_law_word_here", "_law_low", "_law_size", "_law_sign"]
def sp_law_figures : Sp := fun vs H Q _ => ∃ (z : Str) (lo : Int), vs = [.str z, .int lo] ∧ z.length ≤ 99990 ∧ Sml z ∧ ∀ H', Stp [] H H' → Q (oV (low? lo (numO z))) H'
theorem sc_law_figures : FnScope NFg ["_law_word_here", "_law_low"] (defScope s_law_figures) := ⟨rfl, rfl, rfl, by decide +kernel, rfl, by decide +kernel, by decide +kernel⟩
theorem ok_law_figures {f : Addr} {fd : FuncData} (F : Fun K "_law_figures" "_law_figures" s_law_figures f fd) (B : Blt mg) : FnOk P w K mg base CX0 1 f fd ["_law_word_here", "_law_low"] sp_law_figures := by
  refine F.ok sc_law_figures (fun vs H Q E h => ?_) (fun cdv A outer s H vs Q E hr h => ?_)
  · obtain ⟨z, lo, rfl, _⟩ := h
    rfl
  · obtain ⟨z, lo, rfl, hz, hs, k⟩ := h
    have nd := sc_law_figures.nd
    have hu64 : (A.deeper (PyProof.Rows.envOfC "_law_figures" (defScope s_law_figures) s.heap.objs.size f cdv)).units + 64 < cLine := by
      have := hr.un
      omega
    refine ⟨_, pss_cons (ps_set (i := 2) nd rfl (.inl rfl) (pe_slice sl_str (pv 0) (po_some (pe_callTy call_int1A (by rfl) B.int PyProof.Rows.boot_int (pa_cons (pe_cmpR op_eq (pe_slice sl_str (pv 0) po_none (po_some pe_int)) pe_str (nomark _)) pa_nil))) po_none))
      (pss_cons (ps_if (PW.pt (pw_or (pt_not (pt_chain op_lt op_lt pe_int (pe_callB call_len_str (by rfl) B.len PySem.boot_len (pa_cons (pv 2) pa_nil)) pe_int)) (pw_or1 (pt_cmpR (op_neD hu64) (pe_lc (own := [("_law_sign", 3)]) (te := tVar 3) (tt := tTest (tOp rNotSign (tVar 3) (tC (.str "0123456789")))) rfl nd (pi_str (pv 2)) (blkOk_by (N := NFg) (sc := defScope s_law_figures) (by decide +kernel))
      (fun _ _ _ _ _ => pg_name (i := 3) nd rfl (.inl rfl)) (fun _ _ _ _ _ => pts_one (pt_cmpR op_notIn_sign (pv 3) pe_str (by rfl))) (fun _ _ _ _ _ => pv 3)) (pe_lst pa_nil) (nomark _))))) (pss_one (ps_ret pe_non)) pss_nil)
      (pss_one (ps_ret (pe_ifExp (PW.pt (pw_and (pt_cmpR op_eq (pe_callTy call_strA (by rfl) B.str PyProof.Rows.boot_str (pa_cons (pe_callTy call_int_str (by rfl) B.int PyProof.Rows.boot_int (pa_cons (pv 0) pa_nil)) pa_nil)) (pv 0) (nomark _)) (pw_and1 (pt_cmpR op_ge (pe_callTy call_int_str (by rfl) B.int PyProof.Rows.boot_int (pa_cons (pv 0) pa_nil)) (pv 1) (nomark _))))) (pe_callTy call_int_str (by rfl) B.int PyProof.Rows.boot_int (pa_cons (pv 0) pa_nil)) pe_non)))), ?_⟩
    have hfl := figs_len (tl z)
    have hzl := len_tl z
    have hsz : (99990 : Nat) ≤ sizeLine := by decide
    walk_at "rd"
    rw [cut_neg]
    refine ⟨by omega, .inr ⟨_, rfl, _, rfl, by omega, ?_⟩⟩
    have htf := cut_figs z
    generalize hfg : cutS z (some (if neg? (tl z) = true then 1 else 0)) none = fg at *
    have hgl : fg.length = (figs (tl z)).length := by rw [len_tl, htf]
    refine ⟨by omega, ?_⟩
    have hfs : ∀ c ∈ figs (tl z), c < 128 := by
      intro c hc
      refine hs c ?_
      cases hn : neg? (tl z) with
      | true => rw [figs_neg hn]; exact List.mem_cons_of_mem _ hc
      | false => rw [figs_pos hn] at hc; exact hc
    have non : ∀ H', Stp [] H H' → okF (tl z) = false → Q V.non H' := fun H' s' e => by
      have kk := k H' s'
      unfold numO at kk
      rw [if_neg (by rw [e]; decide)] at kk
      exact kk
    have bad : ¬ (1 ≤ (figs (tl z)).length ∧ (figs (tl z)).length ≤ 3) → okF (tl z) = false := fun h => by
      unfold okF
      rw [decide_eq_false h, Bool.false_and]
    by_cases h1 : 1 ≤ (figs (tl z)).length
    · rw [if_pos (by omega)]
      by_cases h3 : (figs (tl z)).length ≤ 3
      · rw [decide_eq_true (show ((fg.length : Nat) : Int) < 4 by omega)]
        rw [if_neg (by decide)]
        refine lc_strF (fun c => !isFig c) rfl (show fg.length ≤ 100000 by omega) (fun c H2 hc s2 Q' q => ?_) (fun c H2 hc s2 Q' q => ⟨_, rfl, q⟩) (fun D H2 hD s2 h2 => ?_)
        · refine ⟨_, rfl, c, _, rfl, rfl, _, rfl, ?_⟩
          rw [fig_in]
          exact q
        · refine ⟨Nat.zero_le _, fun p hp0 => ?_⟩
          have s3 := Stp.new (o := .lst []) hp0
          rw [htf] at h2
          have hyy : ∀ l : List Nat, (∀ c ∈ l, c < 128) → Paired (EqT K (upd H2 p (.lst [])) 0) (l.map fun c => V.str ⟨#[c]⟩) (l.map fun c => V.str ⟨#[c]⟩) := fun l => by
            induction l with
            | nil => exact fun _ => .nil
            | cons c r ih => exact fun h => .cons (.inr (.inl ⟨_, one_ok (h c (by simp)), rfl, rfl⟩)) (ih fun d hd => h d (by simp [hd]))
          refine ne_nilL (n := 0) (s3.keep _ _ h2 (by simp)) upd_same (hyy _ fun c hc => hfs c (List.mem_filter.mp hc).1) (by decide) ⟨_, rfl, ?_⟩
          have e0 : (((figs (tl z)).filter fun c => !isFig c).map fun c => V.str ⟨#[c]⟩).isEmpty = (figs (tl z)).all isFig := by
            rw [List.isEmpty_map, Bool.eq_iff_iff, List.isEmpty_iff, List.filter_eq_nil_iff, List.all_eq_true]
            simp
          rw [e0]
          have s02 : Stp [] H (upd H2 p (.lst [])) := (s2.trans s3).sub (by simp)
          cases hall : (figs (tl z)).all isFig with
          | false =>
            rw [if_pos (by decide)]
            exact non _ s02 (by unfold okF; rw [hall, Bool.and_false])
          | true =>
            rw [if_neg (by decide)]
            have hok : okF (tl z) = true := by
              unfold okF
              rw [hall, decide_eq_true ⟨h1, h3⟩]
              rfl
            have hb := okF_le hok
            have hi := int_okF hok
            have h640 : z.length ≤ 640 := by omega
            have kk := k _ s02
            refine ⟨_, hi, h640, .inl ⟨_, rfl, log_ok hb.1 hb.2, rfl, ?_⟩⟩
            have hcmp : (V.str (numS (valF (tl z))) = V.str z) ↔ numT (valF (tl z)) = tl z := by
              rw [← tl_numS]
              constructor
              · intro e
                injection e with e'
                exact congrArg tl e'
              · intro e
                rw [ext_tl e]
            unfold numO at kk
            rw [if_pos hok] at kk
            by_cases he : numT (valF (tl z)) = tl z
            · rw [if_pos he] at kk
              rw [if_pos (hcmp.mpr he)]
              refine ⟨_, hi, h640, ?_⟩
              by_cases hlo : lo ≤ valF (tl z)
              · rw [if_pos hlo]
                have kk2 : Q (oV (if lo ≤ valF (tl z) then some (valF (tl z)) else none)) (upd H2 p (.lst [])) := kk
                rw [if_pos hlo] at kk2
                exact ⟨_, hi, h640, kk2⟩
              · rw [if_neg hlo]
                have kk2 : Q (oV (if lo ≤ valF (tl z) then some (valF (tl z)) else none)) (upd H2 p (.lst [])) := kk
                rw [if_neg hlo] at kk2
                exact kk2
            · rw [if_neg he] at kk
              rw [if_neg (fun q => he (hcmp.mp q))]
              exact kk
      · rw [decide_eq_false (show ¬ ((fg.length : Nat) : Int) < 4 by omega)]
        rw [if_pos (by decide)]
        exact non H Stp.refl (bad fun q => h3 q.2)
    · rw [if_neg (by omega)]
      exact non H Stp.refl (bad fun q => h1 q.1)
end
end Mx

namespace Mx
open PySem L2 TL LamX
def rowK : List (Key × V) := partsT.map fun p => ((Sum.inr p.1 : Key), V.int (p.2 : Nat))
def manyO (z : Str) : Int := match partsT.lookup z with
  | some n => (n : Nat)
  | none => -1
theorem row_merge : mergeK [] rowK = rowK := by
  simp [rowK, partsT, mergeK, putK, ofString_inj]
theorem lkv_eq {z k : Str} {n : Nat} {r : List (Str × Nat)} : List.lookup z ((k, n) :: r) = if z = k then some n else List.lookup z r := by
  rw [List.lookup_cons]
  by_cases h : z = k
  · rw [if_pos h, h]; simp
  · rw [if_neg h]
    have : (z == k) = false := by simpa using h
    rw [this]
theorem valV_map : ∀ (l : List (Str × Nat)) (z : Str), valV (l.map fun p => ((Sum.inr p.1 : Key), V.int (p.2 : Nat))) (Sum.inr z : Key) = (l.lookup z).map fun n => V.int (n : Nat)
  | [], z => rfl
  | (k, n) :: r, z => by
    rw [lkv_eq]
    have ih := valV_map r z
    by_cases h : z = k
    · subst h
      rw [if_pos rfl]
      simp [valV]
    · rw [if_neg h, ← ih]
      simp [valV, Ne.symm h]
theorem row_val (z : Str) : (valV (mergeK [] rowK) (Sum.inr z : Key)).getD (.int (-1)) = .int (manyO z) := by
  rw [row_merge]
  unfold rowK manyO
  rw [valV_map]
  cases partsT.lookup z <;> rfl
theorem many_iff (z : Str) (n : Nat) : manyO z = (n : Int) ↔ (z, n) ∈ partsT := by
  unfold manyO partsT
  simp only [lkv_eq, List.lookup_nil, List.mem_cons, Prod.mk.injEq, List.not_mem_nil, or_false]
  by_cases h1 : z = "add"
  · subst h1; simp [ofString_inj]; omega
  by_cases h2 : z = "parcel"
  · subst h2; simp [ofString_inj]; omega
  by_cases h3 : z = "end"
  · subst h3; simp [ofString_inj]; omega
  by_cases h4 : z = "lead"
  · subst h4; simp [ofString_inj]; omega
  by_cases h5 : z = "hush"
  · subst h5; simp [ofString_inj]; omega
  by_cases h6 : z = "wake"
  · subst h6; simp [ofString_inj]; omega
  by_cases h7 : z = "beat"
  · subst h7; simp [ofString_inj]; omega
  rw [if_neg h1, if_neg h2, if_neg h3, if_neg h4, if_neg h5, if_neg h6, if_neg h7]
  simp [h1, h2, h3, h4, h5, h6, h7]
def tMany2 (j : Nat) : TE := fun σ H Q => ∃ p W z r, σ[j]? = some (some (.ref p)) ∧ H p = some (.lst W) ∧ W = V.str z :: r ∧ ∀ H', Stp [] H H' → Q (.int (manyO z)) H'
theorem many2_weak {K : PySem.W.Frag} (j : Nat) (σ : L2.St) (H : Hp) (Q : VK) (h : tMany2 j σ H Q) : tDGet2 (tDisp [(tC (.str "add"), tC (.int 5)), (tC (.str "parcel"), tC (.int 3)), (tC (.str "end"), tC (.int 2)), (tC (.str "lead"), tC (.int 3)), (tC (.str "hush"), tC (.int 1)), (tC (.str "wake"), tC (.int 1)), (tC (.str "beat"), tC (.int 0))]) (tOp (rIxL K) (tVar j) (tC (.int 0))) (tUn (rU fun i => V.int (-i)) (tC (.int 1))) σ H Q := by
  obtain ⟨p0, W, z, r, hz, hW, rfl, k⟩ := h
  intro p hp
  refine ⟨upd_same, rowK, rfl, by show 7 ≤ 15; decide, ?_⟩
  have s1 := Stp.new (o := .dK []) hp
  have s2 := Stp.put (o := .dK (mergeK [] rowK)) (upd_same (H := H) (a := p) (o := .dK [])) (fun xs z => nomatch z)
  have g : upd (upd H p (.dK [])) p (.dK (mergeK [] rowK)) p = some (.dK (mergeK [] rowK)) := upd_same
  have s12 : Stp [] H (upd (upd H p (.dK [])) p (.dK (mergeK [] rowK))) := (s1.trans s2).subN fun b hb => .inr (by simp at hb; rw [hb]; exact hp)
  refine ⟨p, rfl, .inl ⟨_, .inl g⟩, _, hz, _, _, _, _, rfl, rfl, .inl (.inl (s12.keep _ _ hW (by simp))), at0 (x := V.str z), ?_⟩
  refine ⟨1, rfl, valV (mergeK [] rowK) (Sum.inr z : Key), ?_, ?_⟩
  · exact DGet.k (k := (Sum.inr z : Key)) g
  · rw [row_val]
    exact k _ s12
theorem cut_13 (xs : List V) : cutV xs (some 1) (some 3) = (xs.drop 1).take 2 := by
  show (List.drop (HT.sIx xs.length 0 (some 1)) xs).take (HT.sIx xs.length xs.length (some 3) - HT.sIx xs.length 0 (some 1)) = _
  have e : HT.sIx xs.length 0 (some 1) = min 1 xs.length := by
    unfold HT.sIx
    simp
  have e2 : HT.sIx xs.length xs.length (some 3) = min 3 xs.length := by
    unfold HT.sIx
    simp
  rw [e, e2]
  cases xs with
  | nil => rfl
  | cons x r =>
    have m1 : min 1 (x :: r).length = 1 := Nat.min_eq_left (by simp)
    rw [m1, List.take_eq_take_iff, List.length_drop, List.length_cons]
    omega
def plW (w0 : Str) (ws : List Str) : List Str := if w0 = "parcel" then ws.take 2 else ws
def tPlain (j : Nat) : TE := fun σ H Q => ∃ p w0 ws, σ[j]? = some (some (.ref p)) ∧ H p = some (.lst ((w0 :: ws).map V.str)) ∧ ∀ H' q, Stp [] H H' → H q = none → H' q = some (.lst ((plW w0 ws).map V.str)) → Q (.ref q) H'
theorem plain_weak {K : PySem.W.Frag} (j : Nat) (σ : L2.St) (H : Hp) (Q : VK) (h : tPlain j σ H Q) : tIf (tTest (tOp rEq (tOp (rIxL K) (tVar j) (tC (.int 0))) (tC (.str "parcel")))) (tSl (rSlL K) (tVar j) (tPart (tC (.int 1))) (tPart (tC (.int 3)))) (tSl (rSlL K) (tVar j) (tPart (tC (.int 1))) tNoPart) σ H Q := by
  obtain ⟨p, w0, ws, hj, hp, k⟩ := h
  refine ⟨_, hj, _, _, _, _, rfl, rfl, .inl (.inl hp), at0 (x := V.str w0), rfl, _, rfl, ?_⟩
  by_cases hw : w0 = "parcel"
  · subst hw
    refine iteT ⟨_, hj, 1, rfl, 3, rfl, p, _, rfl, .inl (.inl hp), fun q hq => ?_⟩
    refine k _ q (Stp.new hq) hq ?_
    rw [upd_same, cut_13]
    show some (HO.lst ((ws.map V.str).take 2)) = some (HO.lst ((if ("parcel" : Str) = "parcel" then ws.take 2 else ws).map V.str))
    rw [if_pos rfl, List.map_take]
  · rw [decide_eq_false (show ¬ V.str w0 = V.str (Str.ofString "parcel") from fun q => hw (by injection q))]
    refine iteF ⟨_, hj, 1, rfl, p, _, rfl, .inl (.inl hp), fun q hq => ?_⟩
    refine k _ q (Stp.new hq) hq ?_
    rw [upd_same, cut_1]
    show some (HO.lst (ws.map V.str)) = some (HO.lst ((if w0 = "parcel" then ws.take 2 else ws).map V.str))
    rw [if_neg hw]
theorem okN_low {w : Str} {lo hi : Int} (h1 : hi = 999) : okN lo hi (numO w) = (low? lo (numO w)).isSome := by
  subst h1
  cases h : numO w with
  | none => rfl
  | some i =>
    have := numO_some h
    show decide (lo ≤ i ∧ i ≤ 999) = (if lo ≤ i then some i else none).isSome
    by_cases hl : lo ≤ i
    · rw [if_pos hl, decide_eq_true ⟨hl, this.2.2⟩]; rfl
    · rw [if_neg hl, decide_eq_false fun q => hl q.1]; rfl
theorem low_eq {w : Str} {lo : Int} (h : (low? lo (numO w)).isSome = true) : low? lo (numO w) = numO w := by
  cases hn : numO w with
  | none => rw [hn] at h; cases h
  | some i =>
    rw [hn] at h
    unfold low? at h ⊢
    by_cases hl : lo ≤ i
    · show (if lo ≤ i then some i else none) = _
      rw [if_pos hl]
    · have h' : (if lo ≤ i then some i else none).isSome = true := h
      rw [if_neg hl] at h'
      cases h'
theorem non_in (f : Str → Option Int) : ∀ ws : List Str, inV .non (ws.map fun w => oV (f w)) = !(ws.all fun w => (f w).isSome)
  | [] => rfl
  | w :: r => by
    have ih := non_in f r
    unfold inV at ih ⊢
    rw [List.map_cons, List.any_cons, ih, List.all_cons]
    cases f w <;> rfl
theorem flat_oV (f : Str → Option Int) (ws : List Str) : (ws.map fun w => oV (f w)).all flatV = true := by
  rw [List.all_eq_true]
  intro x hx
  obtain ⟨w, _, rfl⟩ := List.mem_map.mp hx
  cases f w <;> rfl
theorem map_low {lo : Int} : ∀ {ws : List Str}, (ws.all fun w => (low? lo (numO w)).isSome) = true → (ws.map fun w => oV (low? lo (numO w))) = ws.map fun w => oV (numO w)
  | [], _ => rfl
  | w :: r, h => by
    simp only [List.all_cons, Bool.and_eq_true] at h
    rw [List.map_cons, List.map_cons, low_eq h.1, map_low h.2]
set_option hygiene false in
local macro_rules | `(tactic| walk_at "rd") => `(tactic| try simp only [L2.start, List.map_cons, List.map_nil, List.length_cons, List.length_nil, Nat.reduceAdd, Nat.reduceSub, Nat.reduceLT, Nat.reduceLeDiff, List.replicate_succ, List.replicate_zero, List.append_nil, List.nil_append, List.cons_append, List.set_cons_zero, List.set_cons_succ, List.getElem?_cons_zero, List.getElem?_cons_succ,
  Option.some.injEq, List.cons.injEq, and_true, true_and, and_assoc, reduceCtorEq, L2.V.int.injEq, L2.V.ref.injEq, L2.V.bl.injEq, L2.V.str.injEq, L2.V.ty.injEq, L2.HO.ins.injEq, L2.HO.lst.injEq, L2.HO.tup.injEq, L2.HO.dK.injEq, exists_eq_left', exists_eq_left, exists_eq_right, exists_eq', exists_eq, exists_and_left, exists_and_right, reduceIte, Bool.false_eq_true, Bool.not_true, Bool.not_false,
  L2.tSeq, L2.tIfS, L2.tRet, L2.tRetN, L2.tNext, L2.tAsg, L2.gName, L2.tVar, L2.tC, L2.tCons, L2.tNil, L2.tCB, L2.tOp, L2.tUn, L2.tTup, L2.tLst, L2.tB, L2.tOr, L2.tAnd, L2.tNot, L2.tAndV, L2.tOrV, L2.tNotV, L2.tIf, L2.tTest, L2.tChain, L2.rI, L2.rI0, L2.rU, L2.tDrop, L2.tNever, L2.tCall, L2.tMeth, L2.tMake, L2.rGcd, L2.tFld, L2.sFld, L2.sFldAug, Mx.sFldA, Mx.sFldAugA, L2.rAdd, L2.rSub, L2.rEq, L2.rNe, L2.tDGet, L2.tDIn, L2.tDNotIn, L2.sDPut,
  Mx.isi_int_bool, Mx.isi_int_int, Mx.isi_int_tuple, Mx.isi_int_list, Mx.isi_int_str, Mx.scal_int, Mx.scal_str, Mx.scal_bl, Mx.ofString_inj, Mx.ofString_beq, Mx.lk_cons, Mx.pf_nil, Mx.pf_cons, Mx.sz1, Mx.sz2, List.lookup_nil, String.reduceEq, decide_true, decide_false, decide_eq_true_eq, Int.natAbs_natCast, L2.upd_same, L2.upd_upd, L2.cxOf, L2.gSub, L2.tPar, L2.gCons, L2.gNil, L2.tSl, L2.tPart, L2.rSlL, L2.tNoPart, L2.tM1])
set_option hygiene false in
local macro_rules | `(tactic| walk_at "rds") => `(tactic| try simp only [L2.start, List.map_cons, List.map_nil, List.length_cons, List.length_nil, Nat.reduceAdd, Nat.reduceSub, Nat.reduceLT, Nat.reduceLeDiff, List.replicate_succ, List.replicate_zero, List.append_nil, List.nil_append, List.cons_append, List.set_cons_zero, List.set_cons_succ, List.getElem?_cons_zero, List.getElem?_cons_succ,
  Option.some.injEq, List.cons.injEq, and_true, true_and, and_assoc, reduceCtorEq, L2.V.int.injEq, L2.V.ref.injEq, L2.V.bl.injEq, L2.V.str.injEq, L2.V.ty.injEq, L2.HO.ins.injEq, L2.HO.lst.injEq, L2.HO.tup.injEq, L2.HO.dK.injEq, exists_eq_left', exists_eq_left, exists_eq_right, exists_eq', exists_eq, exists_and_left, exists_and_right, reduceIte, Bool.false_eq_true, Bool.not_true, Bool.not_false,
  L2.tSeq, L2.tIfS, L2.tRet, L2.tRetN, L2.tNext, L2.tAsg, L2.gName, L2.tVar, L2.tC, L2.tCons, L2.tNil, L2.tCB, L2.tOp, L2.tUn, L2.tTup, L2.tLst, L2.tB, L2.tOr, L2.tAnd, L2.tNot, L2.tAndV, L2.tOrV, L2.tNotV, L2.tIf, L2.tTest, L2.tChain, L2.rI, L2.rI0, L2.rU, L2.tDrop, L2.tNever, L2.tCall, L2.tMeth, L2.tMake, L2.rGcd, L2.tFld, L2.sFld, L2.sFldAug, Mx.sFldA, Mx.sFldAugA, L2.rAdd, L2.rSub, L2.rEq, L2.rNe, L2.tDGet, L2.tDIn, L2.tDNotIn, L2.sDPut,
  Mx.isi_int_bool, Mx.isi_int_int, Mx.isi_int_tuple, Mx.isi_int_list, Mx.isi_int_str, Mx.scal_int, Mx.scal_str, Mx.scal_bl, Mx.ofString_inj, Mx.ofString_beq, Mx.lk_cons, Mx.pf_nil, Mx.pf_cons, Mx.sz1, Mx.sz2, List.lookup_nil, String.reduceEq, decide_true, decide_false, decide_eq_true_eq, Int.natAbs_natCast, L2.upd_same, L2.upd_upd, L2.cxOf, L2.gSub, L2.tPar, L2.gCons, L2.gNil, L2.tSl, L2.tPart, L2.rSlL, L2.tNoPart, L2.tM1, *])

section
variable {P : Program} {w : World} {K : PySem.W.Frag} {mg : Str → Option Value} {base : Heap}
abbrev NRd : List Str := ["_law_line", "_law_words", "_law_many", "_law_plain", "_law_numbers", "_law_some", "_law_word_here"]
def sp_law_read (K : PySem.W.Frag) : Sp := fun vs H Q _ => ∃ z : Str, vs = [.str z] ∧ z.length ≤ 90000 ∧ Sml z ∧ (okD (rdRow z) = false → ∀ H', Stp [] H H' → Q .non H') ∧
  (okD (rdRow z) = true → ∀ H' p, Stp [] H H' → (rdRow z).at K H' p → Q (.ref p) H')
theorem sc_law_read : FnScope NRd ["_law_line"] (defScope s_law_read) := ⟨rfl, rfl, rfl, by decide +kernel, rfl, by decide +kernel, by decide +kernel⟩
theorem ok_law_read {f : Addr} {fd : FuncData} (F : Fun K "_law_read" "_law_read" s_law_read f fd) (B : Blt mg) (G : OwnF P w K mg base "_law_figures" 1 ["_law_word_here", "_law_low"] sp_law_figures) : FnOk P w K mg base CX0 2 f fd ["_law_line"] (sp_law_read K) := by
  refine F.ok sc_law_read (fun vs H Q E h => ?_) (fun cdv A outer s H vs Q E hr h => ?_)
  · obtain ⟨z, rfl, _⟩ := h
    rfl
  · obtain ⟨z, rfl, hz, hs, kN, kY⟩ := h
    have nd := sc_law_read.nd
    have hu := hu_of hr
    refine ⟨_, pss_cons (ps_set (i := 1) nd rfl (.inl rfl) (pe_split (pv 0) pe_str))
      (pss_cons (ps_set (i := 2) nd rfl (.inl rfl) (pe_weak (pe_dget2 hu (pe_disp (pps_cons pe_str pe_int (pps_cons pe_str pe_int (pps_cons pe_str pe_int (pps_cons pe_str pe_int (pps_cons pe_str pe_int (pps_cons pe_str pe_int (pps_cons pe_str pe_int pps_nil))))))) (by rfl) (by rfl) (by simp) (by decide)) (pe_ix ix_list (pv 1) pe_int (fun _ _ => rfl)) (pe_un un_neg pe_int) ⟨rfl, rfl, rfl, rfl⟩) (many2_weak (K := K) 1)))
      (pss_cons (ps_if (pt_cmpR op_ne (pv 2) (pe_op op_sub (pe_callB call_len_seq (by rfl) B.len PySem.boot_len (pa_cons (pv 1) pa_nil)) pe_int) (nomark _)) (pss_one (ps_ret pe_non)) pss_nil)
      (pss_cons (ps_set (i := 3) nd rfl (.inl rfl) (pe_weak (pe_ifExp (pt_cmpR op_eq (pe_ix ix_list (pv 1) pe_int (fun _ _ => rfl)) pe_str (nomark _)) (pe_slice sl_list (pv 1) (po_some pe_int) (po_some pe_int)) (pe_slice sl_list (pv 1) (po_some pe_int) po_none)) (plain_weak (K := K) 1)))
      (pss_cons (ps_setLc (i := 4) (own := [("_law_word_here", 6)]) (te := tCall sp_law_figures [] E0 (tCons (tVar 6) (tCons (tC (.int 0)) tNil))) rfl nd rfl rfl (sw_true rfl rfl rfl (by decide +kernel)) (pi_list (pv 3)) (blkOk_by (N := NRd) (sc := defScope s_law_read) (by decide +kernel)) (fun _ _ _ _ _ => pg_name (i := 6) nd rfl (.inl rfl)) (fun _ _ _ _ _ => pts_nil) (fun _ _ _ _ _ => p_call G hr (pa_cons (pv 6) (pa_cons pe_int pa_nil))))
      (pss_cons (ps_if (pt_cmpR op_in_seq pe_non (pv 4) rfl) (pss_one (ps_ret pe_non)) pss_nil)
      (pss_cons (ps_if (pt_cmpR op_ne (pe_ix ix_list (pv 1) pe_int (fun _ _ => rfl)) pe_str (nomark _)) (pss_one (ps_ret (pe_op op_catA (pe_tup (pa_cons (pe_ix ix_list (pv 1) pe_int (fun _ _ => rfl)) pa_nil)) (pe_callTy call_tuple_of (by rfl) B.tuple PyProof.Rows.boot_tuple (pa_cons (pv 4) pa_nil))))) pss_nil)
      (pss_cons (ps_setLc (i := 5) (own := [("_law_word_here", 6)]) (te := tCall sp_law_figures [] E0 (tCons (tVar 6) (tCons (tOp (rI0 fun i j => V.int (i - j)) (tC (.int 0)) (tC (.int 999))) tNil))) rfl nd rfl rfl (sw_true rfl rfl rfl (by decide +kernel)) (pi_list (pe_split (pe_ix ix_list (pv 1) pe_int (fun _ _ => rfl)) pe_str)) (blkOk_by (N := NRd) (sc := defScope s_law_read) (by decide +kernel)) (fun _ _ _ _ _ => pg_name (i := 6) nd rfl (.inl rfl)) (fun _ _ _ _ _ => pts_nil) (fun _ _ _ _ _ => p_call G hr (pa_cons (pv 6) (pa_cons (pe_op op_sub pe_int pe_int) pa_nil))))
      (pss_one (ps_ret (pe_ifExp (PW.pt (pw_or (pt_cmpR op_in_seq pe_non (pv 5) rfl) (pw_or1 (pt_cmpR op_gt (pe_callB call_len_seq (by rfl) B.len PySem.boot_len (pa_cons (pv 5) pa_nil)) pe_int (nomark _))))) pe_non (pe_op op_catA (pe_op op_catA (pe_tup (pa_cons pe_str pa_nil)) (pe_callTy call_tuple_of (by rfl) B.tuple PyProof.Rows.boot_tuple (pa_cons (pv 4) pa_nil))) (pe_tup (pa_cons (pe_callTy call_tuple_of (by rfl) B.tuple PyProof.Rows.boot_tuple (pa_cons (pv 5) pa_nil)) pa_nil))))))))))))), ?_⟩
    walk_at "rd"
    have hsl : (100000 : Nat) ≤ sizeLine := by decide
    have hsb := split_bound (x := z) (y := " ") (s := 32) tl_sp (by decide +kernel)
    have hss := hs.split (y := " ") tl_sp (by decide +kernel)
    have hne := split_ne (x := z) (y := " ") (s := 32) tl_sp (by decide +kernel)
    have kN' : ∀ W, Txt.split z " " = W → okD ⟨W.headD Str.empty, rdParts W⟩ = false → ∀ H', Stp [] H H' → Q .non H' := fun W e => by
      subst e
      exact kN
    have kY' : ∀ W, Txt.split z " " = W → okD ⟨W.headD Str.empty, rdParts W⟩ = true → ∀ H' p, Stp [] H H' → (⟨W.headD Str.empty, rdParts W⟩ : DD).at K H' p → Q (.ref p) H' := fun W e => by
      subst e
      exact kY
    clear kN kY
    refine ⟨by rw [len_tl, tl_sp]; rfl, by omega, fun p1 hp1 => ?_⟩
    have hW' : Txt.split z (Str.ofString " ") = Txt.split z " " := rfl
    rw [hW']
    generalize hW : Txt.split z " " = W at *
    have kN := kN' W rfl
    have kY := kY' W rfl
    clear kN' kY'
    cases W with
    | nil => exact absurd rfl hne
    | cons w0 ws =>
    simp only [List.length_cons, List.mem_cons, forall_eq_or_imp] at hsb hss
    generalize hh1 : upd H p1 _ = H1
    have s1 : Stp [] H H1 := by rw [← hh1]; exact Stp.new hp1
    have e1 : H1 p1 = some (.lst ((w0 :: ws).map V.str)) := by rw [← hh1]; exact upd_same
    refine ⟨p1, _, w0, _, rfl, e1, rfl, fun H2 s2 => ?_⟩
    have e2 := s2.keep _ _ e1 (by simp)
    refine ⟨p1, rfl, _, .inl (.inl (.inl e2)), rfl, ?_⟩
    have hll : (((w0 :: ws).map V.str).length : Int) - 1 = (ws.length : Int) := by simp
    have hrl : (rdParts (w0 :: ws)).length = ws.length := by
      unfold rdParts
      split <;> simp
    have hmem : decide (V.int (manyO w0) = V.int ((((w0 :: ws).map V.str).length : Int) - 1)) = decide ((w0, (rdParts (w0 :: ws)).length) ∈ partsT) := by
      rw [hrl, decide_eq_decide, hll]
      constructor
      · intro h
        injection h with h
        exact (many_iff _ _).mp h
      · intro h
        rw [(many_iff _ _).mpr h]
    rw [hmem]
    by_cases hm : (w0, (rdParts (w0 :: ws)).length) ∈ partsT
    rotate_left
    · rw [decide_eq_false hm, if_pos (by decide)]
      refine kN ?_ _ ((s1.trans s2).sub (by simp))
      unfold okD
      show (decide ((w0, (rdParts (w0 :: ws)).length) ∈ partsT) && _) = false
      rw [decide_eq_false hm, Bool.false_and]
    rw [decide_eq_true hm, if_neg (by decide)]
    have okE : okD ⟨(w0 :: ws).headD Str.empty, rdParts (w0 :: ws)⟩ = (if w0 = "parcel" then ((rdParts (w0 :: ws)).take 2).all okP && okT ((rdParts (w0 :: ws)).getD 2 (.inl none)) else (rdParts (w0 :: ws)).all okP) := by
      unfold okD
      show (decide ((w0, (rdParts (w0 :: ws)).length) ∈ partsT) && _) = _
      rw [decide_eq_true hm, Bool.true_and]
      rfl
    rw [okE] at kN kY
    have hws : ∀ x ∈ ws, x.length ≤ 90000 := fun x hx => Nat.le_trans (hsb.2.2 x hx) hz
    have hpl : ∀ x ∈ plW w0 ws, x ∈ ws := fun x hx => by
      unfold plW at hx
      split at hx
      · exact List.mem_of_mem_take hx
      · exact hx
    have hpll : (plW w0 ws).length ≤ ws.length := by
      unfold plW
      split
      · rw [List.length_take]; omega
      · exact Nat.le_refl _
    refine ⟨p1, w0, ws, rfl, e2, fun H3 p3 s3 hp3 e3 => ?_⟩
    have e13 := s3.keep _ _ e2 (by simp)
    refine lc_lstYv (xs := (plW w0 ws).map V.str) (ys := (plW w0 ws).map fun w => oV (low? 0 (numO w))) rfl e3 (by simp) (by rw [List.length_map]; omega) (fun j x y H4 hj hy s4 Q' q => ?_) (fun D H4 hD s4 h4 => ?_)
    · rw [List.getElem?_map] at hj hy
      obtain ⟨u, hu, rfl⟩ := Option.map_eq_some_iff.mp hj
      rw [hu] at hy
      cases hy
      have hum := hpl u (List.mem_of_getElem? hu)
      exact ⟨_, rfl, u, 0, rfl, by have := hws u hum; omega, hss.2 u hum, q⟩
    have e14 := s4.keep _ _ e13 (by simp)
    have s04 : Stp [] H H4 := (s1.trans (s2.trans (s3.trans s4))).sub (by simp)
    have hD0 : H D = none := (s1.trans (s2.trans s3)).free hD (by simp)
    have hDp : D ≠ p1 := (ne_of_none e13 hD).symm
    refine ⟨D, _, rfl, .inl (.inl (.inl h4)), rfl, flat_oV _ _, ?_⟩
    rw [if_neg (by decide), non_in]
    refine ⟨_, rfl, ?_⟩
    have take_all : ∀ us : List Str, (us.map fun w => (Sum.inl (numO w) : RV)).all okP = us.all fun w => (low? 0 (numO w)).isSome := fun us => by
      induction us with
      | nil => rfl
      | cons u r ih =>
        rw [List.map_cons, List.all_cons, List.all_cons, ih]
        congr 1
        exact okN_low rfl
    cases hall : (plW w0 ws).all fun w => (low? 0 (numO w)).isSome with
    | false =>
      rw [if_pos (by decide)]
      refine kN ?_ _ s04
      by_cases hw : w0 = "parcel"
      · rw [if_pos hw]
        have h3 : ws.length = 3 := by
          rw [hrl, hw] at hm
          unfold partsT at hm
          simp only [List.mem_cons, Prod.mk.injEq, List.not_mem_nil, or_false, ofString_inj, String.reduceEq, false_and, true_and, false_or] at hm
          exact hm
        match ws, h3 with
        | [wa, wb, wc], _ =>
        have e : rdParts (w0 :: [wa, wb, wc]) = [.inl (numO wa), .inl (numO wb), .inr ((Txt.split wc ",").map numO)] := by
          unfold rdParts
          exact if_pos ⟨hw, rfl⟩
        rw [e]
        have e2 : plW w0 [wa, wb, wc] = [wa, wb] := if_pos hw
        rw [e2, ← take_all] at hall
        show (([wa, wb].map fun w => (Sum.inl (numO w) : RV)).all okP && _) = false
        rw [hall, Bool.false_and]
      · rw [if_neg hw]
        have e : rdParts (w0 :: ws) = ws.map fun w => .inl (numO w) := if_neg fun q => hw q.1
        have e2 : plW w0 ws = ws := if_neg hw
        rw [e, take_all, ← e2]
        exact hall
    | true =>
      rw [if_neg (by decide)]
      have hml := map_low hall
      rw [hml] at h4
      refine ⟨_, _, _, _, rfl, rfl, .inl (.inl e14), at0 (x := V.str w0), rfl, ?_⟩
      by_cases hw : w0 = "parcel"
      · rw [decide_eq_true (show V.str w0 = V.str (Str.ofString "parcel") from by rw [hw]), if_neg (by decide)]
        have h3 : ws.length = 3 := by
          rw [hrl, hw] at hm
          unfold partsT at hm
          simp only [List.mem_cons, Prod.mk.injEq, List.not_mem_nil, or_false, ofString_inj, String.reduceEq, false_and, true_and, false_or] at hm
          exact hm
        match ws, h3 with
        | [wa, wb, wc], _ =>
        have e : rdParts (w0 :: [wa, wb, wc]) = [.inl (numO wa), .inl (numO wb), .inr ((Txt.split wc ",").map numO)] := by
          unfold rdParts
          exact if_pos ⟨hw, rfl⟩
        have e2 : plW w0 [wa, wb, wc] = [wa, wb] := if_pos hw
        rw [e2] at h4 hall
        rw [if_pos hw, e] at kN kY
        have hp2 : ([(.inl (numO wa) : RV), .inl (numO wb), .inr ((Txt.split wc ",").map numO)].take 2).all okP = true := by
          rw [← take_all] at hall
          exact hall
        rw [hp2, Bool.true_and] at kN kY
        have hcb := split_bound (x := wc) (y := ",") (s := 44) tl_com (by decide +kernel)
        have hcs := (hss.2 wc (by simp)).split (y := ",") tl_com (by decide +kernel)
        have hcn := split_ne (x := wc) (y := ",") (s := 44) tl_com (by decide +kernel)
        have hcl := hws wc (by simp)
        refine lc_lstYm (xs := (Txt.split wc ",").map V.str) (ys := (Txt.split wc ",").map fun w => oV (low? (-999) (numO w))) (fun R hR => ?_) (by simp) (by rw [List.length_map]; omega) (fun j x y H5 hj hy s5 Q' q => ?_) (fun D2 H5 hD2 s5 h5 => ?_)
        · walk_at "rd"
          refine ixL (.inl (.inl e14)) (x := .str wc) rfl ?_
          refine ⟨⟨_, rfl⟩, _, rfl, (by rw [len_tl, tl_com]; rfl), (by omega), fun p2 hp2 => ?_⟩
          exact hR _ _ upd_same (Stp.new hp2)
        · rw [List.getElem?_map] at hj hy
          obtain ⟨u, hu, rfl⟩ := Option.map_eq_some_iff.mp hj
          rw [hu] at hy
          cases hy
          have hum := List.mem_of_getElem? hu
          exact ⟨_, rfl, 0, 999, rfl, rfl, u, -999, rfl, by have := hcb.2 u hum; omega, hcs u hum, q⟩
        have eT : okT ([(.inl (numO wa) : RV), .inl (numO wb), .inr ((Txt.split wc ",").map numO)].getD 2 (.inl none)) = (decide (1 ≤ (Txt.split wc ",").length ∧ (Txt.split wc ",").length ≤ 32) && (Txt.split wc ",").all fun w => (low? (-999) (numO w)).isSome) := by
          show (decide (1 ≤ ((Txt.split wc ",").map numO).length ∧ ((Txt.split wc ",").map numO).length ≤ 32) && ((Txt.split wc ",").map numO).all (okN (-999) 999)) = _
          rw [List.length_map, List.all_map]
          congr 1
          refine congrArg (List.all _) (funext fun w => ?_)
          exact okN_low rfl
        rw [eT] at kN kY
        generalize hC : Txt.split wc "," = C at *
        have hc1 : 1 ≤ C.length := by
          cases C with
          | nil => exact absurd rfl hcn
          | cons => simp
        refine ⟨D2, _, rfl, .inl (.inl (.inl h5)), rfl, flat_oV _ _, ?_⟩
        rw [if_neg (by decide), non_in]
        refine ⟨_, rfl, ?_⟩
        have s05 : Stp [] H H5 := (s04.trans s5).sub (by simp)
        cases hal2 : C.all fun w => (low? (-999) (numO w)).isSome with
        | false =>
          rw [if_pos (by decide)]
          exact kN (by rw [hal2, Bool.and_false]) _ s05
        | true =>
          rw [if_neg (by decide)]
          rw [map_low hal2] at h5
          refine ⟨D2, rfl, _, .inl (.inl (.inl h5)), ?_⟩
          rw [List.length_map]
          by_cases h32 : C.length ≤ 32
          · rw [if_neg (by omega)]
            refine fun p hp => ?_
            generalize hh6 : upd H5 p _ = H6
            have s6 : Stp [] H5 H6 := by rw [← hh6]; exact Stp.new hp
            have e6 : H6 p = some (.tup [.str "parcel"]) := by rw [← hh6]; exact upd_same
            have h46 := s6.keep _ _ (s5.keep _ _ h4 (by simp)) (by simp)
            have h56 := s6.keep _ _ h5 (by simp)
            refine ⟨D, rfl, _, .inl ⟨.inl (.inl h46), fun l hl => ?_⟩⟩
            have s7 := Stp.new (o := .tup ([wa, wb].map fun w => oV (numO w))) hl
            have h57 := s7.keep _ _ h56 (by simp)
            refine ⟨p, l, [.str "parcel"], _, rfl, rfl, .inl (s7.tup _ _ e6), .inl upd_same, by simp, by show 1 + 2 ≤ sizeLine; omega, fun t H8 ht s8 => ?_⟩
            refine ⟨D2, rfl, _, .inl ⟨.inl (.inl (s8.keep _ _ h57 (by simp))), fun l2 hl2 p3 hp3 => ?_⟩⟩
            have s9 := Stp.new (o := .tup (C.map fun w => oV (numO w))) hl2
            have h9 : upd H8 l2 (.tup (C.map fun w => oV (numO w))) l2 = some (.tup (C.map fun w => oV (numO w))) := upd_same
            generalize upd H8 l2 (.tup (C.map fun w => oV (numO w))) = H9 at *
            have s10 := Stp.new (o := .tup [.ref l2]) hp3
            refine ⟨t, p3, _, [.ref l2], rfl, rfl, (ht.st s9).st s10, .inl upd_same, by simp, (by show 3 + 1 ≤ sizeLine; omega), fun t2 H11 ht2 s11 => ?_⟩
            refine kY (by rw [decide_eq_true ⟨hc1, h32⟩, hal2]; rfl) H11 t2 ((s05.trans (s6.trans (s7.trans (s8.trans (s9.trans (s10.trans s11)))))).sub (by simp)) ⟨[oV (numO wa), oV (numO wb), .ref l2], ?_, .cons rfl (.cons rfl (.cons ⟨l2, rfl, ?_⟩ .nil))⟩
            · show TupAt K H11 t2 (V.str w0 :: _)
              rw [hw]
              exact ht2
            · rw [List.map_map]
              exact .inl (s11.tup _ _ (s10.tup _ _ h9))
          · rw [if_pos (by omega)]
            exact kN (by rw [decide_eq_false (fun q => h32 q.2), Bool.false_and]) _ s05
      · rw [decide_eq_false (show ¬ V.str w0 = V.str (Str.ofString "parcel") from fun q => hw (by injection q)), if_pos (by decide)]
        have e : rdParts (w0 :: ws) = ws.map fun w => .inl (numO w) := if_neg fun q => hw q.1
        have e2 : plW w0 ws = ws := if_neg hw
        rw [e2] at h4 hall
        rw [if_neg hw, e, take_all, hall] at kY
        refine ixL (.inl (.inl e14)) (x := .str w0) at0 (fun p hp => ?_)
        generalize hh5 : upd H4 p _ = H5
        have s5 : Stp [] H4 H5 := by rw [← hh5]; exact Stp.new hp
        have e5 : H5 p = some (.tup [.str w0]) := by rw [← hh5]; exact upd_same
        refine ⟨D, rfl, _, .inl ⟨.inl (.inl (s5.keep _ _ h4 (by simp))), fun l hl => ?_⟩⟩
        have s6 := Stp.new (o := .tup (ws.map fun w => oV (numO w))) hl
        refine ⟨p, l, [.str w0], _, rfl, rfl, .inl (s6.tup _ _ e5), .inl upd_same, by simp, by rw [List.length_map]; show 1 + ws.length ≤ sizeLine; omega, fun t H7 ht s7 => ?_⟩
        exact kY rfl H7 t ((s04.trans (s5.trans (s6.trans s7))).sub (by simp)) ⟨_, ht, pr_inl ws⟩
end
end Mx

namespace Mx
open PySem L2 TL LamX
theorem cutL_from (xs : List V) (n : Nat) : cutV xs (some (n : Int)) none = xs.drop n := by
  show (xs.drop (HT.sIx xs.length 0 (some (n : Int)))).take (HT.sIx xs.length xs.length none - HT.sIx xs.length 0 (some (n : Int))) = _
  have e : HT.sIx xs.length 0 (some (n : Int)) = min n xs.length := by
    unfold HT.sIx
    simp
    omega
  have e2 : HT.sIx xs.length xs.length none = xs.length := rfl
  rw [e, e2]
  by_cases h : n ≤ xs.length
  · rw [Nat.min_eq_left h, List.take_of_length_le (by rw [List.length_drop]; omega)]
  · rw [Nat.min_eq_right (by omega), List.drop_of_length_le (show xs.length ≤ n by omega), Nat.sub_self, List.take_zero]
theorem cutL_upto (xs : List V) (n : Nat) : cutV xs none (some (n : Int)) = xs.take n := by
  show (xs.drop (HT.sIx xs.length 0 none)).take (HT.sIx xs.length xs.length (some (n : Int)) - HT.sIx xs.length 0 none) = _
  have e0 : HT.sIx xs.length 0 none = 0 := rfl
  have e : HT.sIx xs.length xs.length (some (n : Int)) = min n xs.length := by
    unfold HT.sIx
    simp
    omega
  rw [e0, e, List.drop_zero, Nat.sub_zero, List.take_eq_take_iff]
  omega
/-! ### what joined texts cost -/
def cost (ps : List Str) : Nat := (ps.map (·.length)).sum + ps.length
theorem cost_cons (p : Str) (r : List Str) : cost (p :: r) = p.length + 1 + cost r := by
  unfold cost
  rw [List.map_cons, List.sum_cons, List.length_cons]
  omega
theorem cost_app (a b : List Str) : cost (a ++ b) = cost a + cost b := by
  unfold cost
  rw [List.map_append, List.sum_append, List.length_append]
  omega
theorem cost_cut (a : List Str) (n : Nat) : cost (a.take n) + cost (a.drop n) = cost a := by
  rw [← cost_app, List.take_append_drop]
theorem cost_at {a : List Str} {n : Nat} {x : Str} (h : a[n]? = some x) : cost (a.drop n) = x.length + 1 + cost (a.drop (n + 1)) := by
  obtain ⟨hl, e⟩ := List.getElem?_eq_some_iff.mp h
  rw [List.drop_eq_getElem_cons hl, cost_cons, e]
theorem cost_spl (s : Nat) : ∀ (L acc : List Nat), ((spl [s] 0 acc L).map (·.length)).sum + (spl [s] 0 acc L).length = acc.length + L.length + 1
  | [], acc => by
    rw [spl_nil]
    simp
  | c :: r, acc => by
    by_cases h : pre [s] (c :: r) = true
    · rw [spl_hit h]
      have ih := cost_spl s r []
      simp only [List.map_cons, List.sum_cons, List.length_cons, List.length_nil] at ih ⊢
      show acc.length + ((spl [s] 0 [] r).map (·.length)).sum + ((spl [s] 0 [] r).length + 1) = _
      omega
    · have h' : pre [s] (c :: r) = false := by simpa using h
      rw [spl_miss h']
      have ih := cost_spl s r (acc ++ [c])
      simp only [List.length_append, List.length_cons, List.length_nil] at ih ⊢
      omega
theorem cost_split {x y : Str} {s : Nat} (hy : tl y = [s]) (hk : y.cps.all (· < 256) = true) : cost (Txt.split x y) = x.length + 1 := by
  have e := split_spl x y (by rw [hy]; simp) (kind_ok hk)
  rw [hy] at e
  have b := cost_spl s (tl x) []
  rw [← e, List.map_map, List.length_map] at b
  unfold cost
  have e2 : (Txt.split x y).map (·.length) = (Txt.split x y).map ((fun l : List Nat => l.length) ∘ tl) := List.map_congr_left fun w _ => len_tl w
  rw [e2, b, len_tl]
  simp
theorem cost_joinL {S : List Nat} (hS : S.length ≤ 1) : ∀ ps : List (List Nat), (joinL S ps).length ≤ (ps.map (·.length)).sum + ps.length
  | [] => by simp [joinL]
  | [p] => by
    show p.length ≤ _
    simp
  | p :: q :: r => by
    have ih := cost_joinL hS (q :: r)
    show (p ++ (S ++ joinL S (q :: r))).length ≤ _
    rw [List.length_append, List.length_append, List.map_cons, List.sum_cons, List.length_cons]
    omega
theorem cost_join {y : Str} (hy : (tl y).length ≤ 1) (ps : List Str) : (Txt.join y ps).length ≤ cost ps := by
  rw [join_eq, len_tl, tl_join]
  refine Nat.le_trans (cost_joinL hy _) ?_
  rw [List.map_map, List.length_map]
  unfold cost
  have e2 : ps.map ((fun l : List Nat => l.length) ∘ tl) = ps.map (·.length) := List.map_congr_left fun w _ => (len_tl w).symm
  rw [e2]
  exact Nat.le_refl _
def Smls (ps : List Str) : Prop := ∀ w ∈ ps, Sml w
theorem Smls.join {y : Str} {ps : List Str} (hy : Sml y) (h : Smls ps) : Sml (Txt.join y ps) := all_join hy h
theorem Smls.app {a b : List Str} (ha : Smls a) (hb : Smls b) : Smls (a ++ b) := fun w hw => (List.mem_append.mp hw).elim (ha w) (hb w)
theorem Smls.take {a : List Str} (h : Smls a) (n : Nat) : Smls (a.take n) := fun w hw => h w (List.mem_of_mem_take hw)
theorem Smls.drop {a : List Str} (h : Smls a) (n : Nat) : Smls (a.drop n) := fun w hw => h w (List.mem_of_mem_drop hw)
theorem Sml.app {a b : Str} (ha : Sml a) (hb : Sml b) : Sml (a ++ b) := by
  intro c hc
  rw [tl_append] at hc
  exact (List.mem_append.mp hc).elim (ha c) (hb c)
def signsS : Str := "0123456789 -,\nabcdefghijklmnopqrstuvwxyz!#$&'()*+./:;<=>?@ABCDEFGHIJKLMNOPQRSTUVWXYZ[]^_{|}~"
theorem signs_small : ∀ c ∈ tl signsS, c < 128 := by decide +kernel
theorem signs_len : signsS.length = 92 := by decide +kernel
theorem sign_at {c : Int} (h0 : 0 ≤ c) (h1 : c < 92) : ∃ d, atI signsS.cps.toList c = some d ∧ d < 128 := by
  have hl : signsS.cps.toList.length = 92 := by
    have := signs_len
    rw [len_tl] at this
    exact this
  have hi : c.toNat < signsS.cps.toList.length := by omega
  refine ⟨signsS.cps.toList[c.toNat], ?_, signs_small _ (List.getElem_mem hi)⟩
  unfold atI ixN
  rw [if_pos h0, if_pos (by omega)]
  show signsS.cps.toList[c.toNat]? = _
  rw [List.getElem?_eq_getElem hi]
def oddL : List Str := ["", "0", "00", "07", "-0", "-1", "999", "1000", "-999", "-1000", "1,2", "-3,4", ",", "beat", "add", "hush", "End"]
theorem odd_ok : ∀ w ∈ oddL, (∀ c ∈ tl w, c < 128) ∧ w.length ≤ 5 := by decide +kernel
theorem odd_at {c : Int} (h0 : 0 ≤ c) (h1 : c < 17) : ∃ w, atI (oddL.map V.str) c = some (.str w) ∧ Sml w ∧ w.length ≤ 5 := by
  have hi : c.toNat < oddL.length := by show c.toNat < 17; omega
  have hm := odd_ok _ (List.getElem_mem hi)
  refine ⟨oddL[c.toNat], ?_, hm.1, hm.2⟩
  unfold atI ixN
  have hl : (oddL.map V.str).length = 17 := rfl
  rw [if_pos h0, if_pos (by omega)]
  show (oddL.map V.str)[c.toNat]? = _
  rw [List.getElem?_map, List.getElem?_eq_getElem hi]
  rfl
theorem at_strs {ps : List Str} {c : Int} (h0 : 0 ≤ c) (h1 : c < ps.length) : ∃ w, atI (ps.map V.str) c = some (.str w) ∧ ps[c.toNat]? = some w := by
  have hi : c.toNat < ps.length := by omega
  refine ⟨ps[c.toNat], ?_, List.getElem?_eq_getElem hi⟩
  unfold atI ixN
  rw [List.length_map, if_pos h0, if_pos (by omega)]
  show (ps.map V.str)[c.toNat]? = _
  rw [List.getElem?_map, List.getElem?_eq_getElem hi]
  rfl
set_option hygiene false in
local macro_rules | `(tactic| walk_at "rd") => `(tactic| try simp only [L2.start, List.map_cons, List.map_nil, List.length_cons, List.length_nil, Nat.reduceAdd, Nat.reduceSub, Nat.reduceLT, Nat.reduceLeDiff, List.replicate_succ, List.replicate_zero, List.append_nil, List.nil_append, List.cons_append, List.set_cons_zero, List.set_cons_succ, List.getElem?_cons_zero, List.getElem?_cons_succ,
  Option.some.injEq, List.cons.injEq, and_true, true_and, and_assoc, reduceCtorEq, L2.V.int.injEq, L2.V.ref.injEq, L2.V.bl.injEq, L2.V.str.injEq, L2.V.ty.injEq, L2.HO.ins.injEq, L2.HO.lst.injEq, L2.HO.tup.injEq, L2.HO.dK.injEq, exists_eq_left', exists_eq_left, exists_eq_right, exists_eq', exists_eq, exists_and_left, exists_and_right, reduceIte, Bool.false_eq_true, Bool.not_true, Bool.not_false,
  L2.tSeq, L2.tIfS, L2.tRet, L2.tRetN, L2.tNext, L2.tAsg, L2.gName, L2.tVar, L2.tC, L2.tCons, L2.tNil, L2.tCB, L2.tOp, L2.tUn, L2.tTup, L2.tLst, L2.tB, L2.tOr, L2.tAnd, L2.tNot, L2.tAndV, L2.tOrV, L2.tNotV, L2.tIf, L2.tTest, L2.tChain, L2.rI, L2.rI0, L2.rU, L2.tDrop, L2.tNever, L2.tCall, L2.tMeth, L2.tMake, L2.rGcd, L2.tFld, L2.sFld, L2.sFldAug, Mx.sFldA, Mx.sFldAugA, L2.rAdd, L2.rSub, L2.rEq, L2.rNe, L2.tDGet, L2.tDIn, L2.tDNotIn, L2.sDPut,
  Mx.isi_int_bool, Mx.isi_int_int, Mx.isi_int_tuple, Mx.isi_int_list, Mx.isi_int_str, Mx.scal_int, Mx.scal_str, Mx.scal_bl, Mx.ofString_inj, Mx.ofString_beq, Mx.lk_cons, Mx.pf_nil, Mx.pf_cons, Mx.sz1, Mx.sz2, List.lookup_nil, String.reduceEq, decide_true, decide_false, decide_eq_true_eq, Int.natAbs_natCast, L2.upd_same, L2.upd_upd, L2.cxOf, L2.gSub, L2.tPar, L2.gCons, L2.gNil, L2.tSl, L2.tPart, L2.tNoPart, L2.tM1, L2.rSlS])
set_option hygiene false in
local macro_rules | `(tactic| walk_at "rds") => `(tactic| try simp only [L2.start, List.map_cons, List.map_nil, List.length_cons, List.length_nil, Nat.reduceAdd, Nat.reduceSub, Nat.reduceLT, Nat.reduceLeDiff, List.replicate_succ, List.replicate_zero, List.append_nil, List.nil_append, List.cons_append, List.set_cons_zero, List.set_cons_succ, List.getElem?_cons_zero, List.getElem?_cons_succ,
  Option.some.injEq, List.cons.injEq, and_true, true_and, and_assoc, reduceCtorEq, L2.V.int.injEq, L2.V.ref.injEq, L2.V.bl.injEq, L2.V.str.injEq, L2.V.ty.injEq, L2.HO.ins.injEq, L2.HO.lst.injEq, L2.HO.tup.injEq, L2.HO.dK.injEq, exists_eq_left', exists_eq_left, exists_eq_right, exists_eq', exists_eq, exists_and_left, exists_and_right, reduceIte, Bool.false_eq_true, Bool.not_true, Bool.not_false,
  L2.tSeq, L2.tIfS, L2.tRet, L2.tRetN, L2.tNext, L2.tAsg, L2.gName, L2.tVar, L2.tC, L2.tCons, L2.tNil, L2.tCB, L2.tOp, L2.tUn, L2.tTup, L2.tLst, L2.tB, L2.tOr, L2.tAnd, L2.tNot, L2.tAndV, L2.tOrV, L2.tNotV, L2.tIf, L2.tTest, L2.tChain, L2.rI, L2.rI0, L2.rU, L2.tDrop, L2.tNever, L2.tCall, L2.tMeth, L2.tMake, L2.rGcd, L2.tFld, L2.sFld, L2.sFldAug, Mx.sFldA, Mx.sFldAugA, L2.rAdd, L2.rSub, L2.rEq, L2.rNe, L2.tDGet, L2.tDIn, L2.tDNotIn, L2.sDPut,
  Mx.isi_int_bool, Mx.isi_int_int, Mx.isi_int_tuple, Mx.isi_int_list, Mx.isi_int_str, Mx.scal_int, Mx.scal_str, Mx.scal_bl, Mx.ofString_inj, Mx.ofString_beq, Mx.lk_cons, Mx.pf_nil, Mx.pf_cons, Mx.sz1, Mx.sz2, List.lookup_nil, String.reduceEq, decide_true, decide_false, decide_eq_true_eq, Int.natAbs_natCast, L2.upd_same, L2.upd_upd, L2.cxOf, L2.gSub, L2.tPar, L2.gCons, L2.gNil, L2.tSl, L2.tPart, L2.tNoPart, L2.tM1, L2.rSlS, *])

section
variable {P : Program} {w : World} {K : PySem.W.Frag} {mg : Str → Option Value} {base : Heap}
theorem sl_up {H : Hp} {Q : VK} {p : Addr} {ps : List Str} {i : Int} (n : Nat) (hi : i = (n : Int)) (h : H p = some (.lst (ps.map V.str))) (k : ∀ q H', H q = none → Stp [] H H' → H' q = some (.lst ((ps.take n).map V.str)) → Q (.ref q) H') : rSlL K (.ref p) none (some i) H Q := by
  subst hi
  refine ⟨p, _, rfl, .inl (.inl h), fun q hq => k q _ hq (Stp.new hq) ?_⟩
  rw [upd_same, cutL_upto, List.map_take]
theorem sl_fr {H : Hp} {Q : VK} {p : Addr} {ps : List Str} {i : Int} (n : Nat) (hi : i = (n : Int)) (h : H p = some (.lst (ps.map V.str))) (k : ∀ q H', H q = none → Stp [] H H' → H' q = some (.lst ((ps.drop n).map V.str)) → Q (.ref q) H') : rSlL K (.ref p) (some i) none H Q := by
  subst hi
  refine ⟨p, _, rfl, .inl (.inl h), fun q hq => k q _ hq (Stp.new hq) ?_⟩
  rw [upd_same, cutL_from, List.map_drop]
theorem cat_up {H : Hp} {Q : VK} {a b : Addr} {as bs : List Str} (ha : H a = some (.lst (as.map V.str))) (hb : H b = some (.lst (bs.map V.str))) (hl : as.length + bs.length ≤ 200000) (k : ∀ q H', H q = none → Stp [] H H' → H' q = some (.lst ((as ++ bs).map V.str)) → Q (.ref q) H') : rCat (.ref a) (.ref b) H Q := by
  have hsz : (200000 : Nat) ≤ sizeLine := by decide
  refine ⟨a, b, _, _, rfl, rfl, ha, hb, by rw [List.length_map, List.length_map]; omega, fun q hq => k q _ hq (Stp.new hq) ?_⟩
  rw [upd_same, List.map_append]
theorem cost_len (ps : List Str) : ps.length ≤ cost ps := by
  unfold cost
  omega
abbrev NSp : List Str := ["_law_row", "_law_text_here", "_law_way", "_law_at", "_law_signs", "_law_sign", "_law_lines", "_law_k", "_law_words", "_law_j", "_law_odd"]
def sp_law_spoilt (K : PySem.W.Frag) : Sp := fun vs H Q _ => ∃ (r sc : Addr) (ns : List Int) (z : Str), vs = [.ref r, .str z] ∧ RowAt K H r sc ns ∧ z.length ≤ 40000 ∧ Sml z ∧
  ∀ z' H', z'.length ≤ 2 * z.length + 10 → Sml z' → RowAt K H' r sc ns → Stp [r] H H' → Q (.str z') H'
theorem sc_law_spoilt : FnScope NSp ["_law_row", "_law_text_here"] (defScope s_law_spoilt) := ⟨rfl, rfl, rfl, by decide +kernel, rfl, by decide +kernel, by decide +kernel⟩
theorem ok_law_spoilt {f : Addr} {fd : FuncData} (F : Fun K "_law_spoilt" "_law_spoilt" s_law_spoilt f fd) (B : Blt mg) (GT : OwnF P w K mg base "_law_taken" 1 ["_law_row", "_law_many"] (sp_taken K)) : FnOk P w K mg base CX0 2 f fd ["_law_row", "_law_text_here"] (sp_law_spoilt K) := by
  refine F.ok sc_law_spoilt (fun vs H Q E h => ?_) (fun cdv A outer s H vs Q E hr h => ?_)
  · obtain ⟨r, sc, ns, z, rfl, _⟩ := h
    rfl
  · obtain ⟨r, sc, ns, z, rfl, hR, hz, hs, k⟩ := h
    have nd := sc_law_spoilt.nd
    refine ⟨_, (pss_cons (ps_set (i := 2) nd rfl (.inl rfl) (p_call GT hr (pa_cons (pv 0) (pa_cons pe_int pa_nil))))
      (pss_cons (ps_set (i := 3) nd rfl (.inl rfl) (p_call GT hr (pa_cons (pv 0) (pa_cons (pe_op op_add (pe_callB call_len_str (by rfl) B.len PySem.boot_len (pa_cons (pv 1) pa_nil)) pe_int) pa_nil))))
      (pss_cons (ps_set (i := 4) nd rfl (.inl rfl) pe_str)
      (pss_cons (ps_set (i := 5) nd rfl (.inl rfl) (pe_ix ix_str (pv 4) (p_call GT hr (pa_cons (pv 0) (pa_cons (pe_ix ix_list (pe_lst (pa_cons pe_int (pa_cons (pe_callB call_len_str (by rfl) B.len PySem.boot_len (pa_cons (pv 4) pa_nil)) pa_nil))) (p_call GT hr (pa_cons (pv 0) (pa_cons pe_int pa_nil))) (fun _ _ => rfl)) pa_nil))) (fun _ _ => rfl)))
      (pss_cons (ps_if (pt_cmpR op_lt (pv 2) pe_int (nomark _)) (pss_one (ps_ret (pe_op op_add_str (pe_op op_add_str (pe_slice sl_str (pv 1) po_none (po_some (pv 3))) (pe_ix ix_list (pe_lst (pa_cons (pv 5) (pa_cons pe_str (pa_cons (pv 5) pa_nil)))) (pv 2) (fun _ _ => rfl))) (pe_slice sl_str (pv 1) (po_some (pe_op op_add (pv 3) (pe_callTy call_int1A (by rfl) B.int PyProof.Rows.boot_int (pa_cons (pe_cmpR op_gt (pv 2) pe_int (nomark _)) pa_nil)))) po_none)))) pss_nil)
      (pss_cons (ps_set (i := 6) nd rfl (.inl rfl) (pe_split (pv 1) pe_str))
      (pss_cons (ps_set (i := 7) nd rfl (.inl rfl) (p_call GT hr (pa_cons (pv 0) (pa_cons (pe_callB call_len_seq (by rfl) B.len PySem.boot_len (pa_cons (pv 6) pa_nil)) pa_nil))))
      (pss_cons (ps_if (pt_cmpR op_lt (pv 2) pe_int (nomark _)) (pss_one (ps_ret (pe_join pe_str (pe_ix ix_list (pe_lst (pa_cons (pe_op op_cat (pe_slice sl_list (pv 6) po_none (po_some (pv 7))) (pe_slice sl_list (pv 6) (po_some (pe_op op_add (pv 7) pe_int)) po_none)) (pa_cons (pe_op op_cat (pe_slice sl_list (pv 6) po_none (po_some (pe_op op_add (pv 7) pe_int))) (pe_slice sl_list (pv 6) (po_some (pv 7)) po_none)) (pa_cons (pe_op op_cat (pe_slice sl_list (pv 6) (po_some (pv 7)) po_none) (pe_slice sl_list (pv 6) po_none (po_some (pv 7)))) pa_nil)))) (pe_op op_sub (pv 2) pe_int) (fun _ _ => rfl))))) pss_nil)
      (pss_cons (ps_set (i := 8) nd rfl (.inl rfl) (pe_split (pe_ix ix_list (pv 6) (pv 7) (fun _ _ => rfl)) pe_str))
      (pss_cons (ps_set (i := 9) nd rfl (.inl rfl) (p_call GT hr (pa_cons (pv 0) (pa_cons (pe_callB call_len_seq (by rfl) B.len PySem.boot_len (pa_cons (pv 8) pa_nil)) pa_nil))))
      (pss_cons (ps_set (i := 10) nd rfl (.inl rfl) (pe_lst (pa_cons pe_str (pa_cons pe_str (pa_cons pe_str (pa_cons pe_str (pa_cons pe_str (pa_cons pe_str (pa_cons pe_str (pa_cons pe_str (pa_cons pe_str (pa_cons pe_str (pa_cons pe_str (pa_cons pe_str (pa_cons pe_str (pa_cons pe_str pa_nil))))))))))))))))
      (pss_cons (ps_set (i := 10) nd rfl (.inl rfl) (pe_op op_cat (pv 10) (pe_lst (pa_cons pe_str (pa_cons pe_str (pa_cons pe_str pa_nil))))))
      (pss_cons (ps_set (i := 8) nd rfl (.inl rfl) (pe_op op_cat (pe_op op_cat (pe_slice sl_list (pv 8) po_none (po_some (pv 9))) (pe_ix ix_list (pe_lst (pa_cons (pe_lst pa_nil) (pa_cons (pe_op op_rep (pe_lst (pa_cons (pe_ix ix_list (pv 8) (pv 9) (fun _ _ => rfl)) pa_nil)) pe_int) (pa_cons (pe_lst (pa_cons (pe_ix ix_list (pv 10) (p_call GT hr (pa_cons (pv 0) (pa_cons pe_int pa_nil))) (fun _ _ => rfl)) pa_nil)) pa_nil)))) (pe_op op_sub (pv 2) pe_int) (fun _ _ => rfl))) (pe_slice sl_list (pv 8) (po_some (pe_op op_add (pv 9) pe_int)) po_none)))
      (pss_one (ps_ret (pe_join pe_str (pe_op op_cat (pe_op op_cat (pe_slice sl_list (pv 6) po_none (po_some (pv 7))) (pe_lst (pa_cons (pe_join pe_str (pv 8)) pa_nil))) (pe_slice sl_list (pv 6) (po_some (pe_op op_add (pv 7) pe_int)) po_none)))))))))))))))))), ?_⟩
    walk_at "rd"
    have hS : (Str.ofString "0123456789 -,\nabcdefghijklmnopqrstuvwxyz!#$&'()*+./:;<=>?@ABCDEFGHIJKLMNOPQRSTUVWXYZ[]^_{|}~") = signsS := rfl
    rw [hS]
    have hsz : (200000 : Nat) ≤ sizeLine := by decide
    have hSl := signs_len
    refine ⟨r, sc, ns, 9, rfl, hR, by decide, fun way H1 w0 w1 hR1 s1 => ?_⟩
    refine ⟨by omega, r, sc, ns, _, rfl, hR1, by omega, fun pl H2 a0 a1 hR2 s2 => ?_⟩
    refine ⟨by omega, fun p1 hp1 => ?_⟩
    generalize hh3 : upd H2 p1 _ = H3
    have s3 : Stp [] H2 H3 := by rw [← hh3]; exact Stp.new hp1
    have e3 : H3 p1 = some (.lst [.int 14, .int (signsS.length : Nat)]) := by rw [← hh3]; exact upd_same
    have hR3 := hR2.st0 s3
    have hpr := row_ne hR2 hp1
    refine ⟨r, sc, ns, 2, rfl, hR3, by decide, fun c2 H4 c0 c1 hR4 s4 => ?_⟩
    have e4 := s4.keep _ _ e3 (by simpa using hpr)
    obtain ⟨v, hv0, hv1, hat⟩ : ∃ v : Int, 14 ≤ v ∧ v ≤ signsS.length ∧ atI [V.int 14, V.int (signsS.length : Nat)] c2 = some (.int v) := by
      rcases (show c2 = 0 ∨ c2 = 1 by omega) with rfl | rfl
      · exact ⟨14, by omega, by omega, rfl⟩
      · exact ⟨_, by omega, by omega, rfl⟩
    refine ixL (.inl (.inl e4)) hat ?_
    refine ⟨r, sc, ns, v, rfl, hR4, by omega, fun cs H5 cs0 cs1 hR5 s5 => ?_⟩
    obtain ⟨sg, hsg, hsm⟩ := sign_at (c := cs) cs0 (by omega)
    refine ⟨_, cs, sg, rfl, rfl, by omega, hsg, way, rfl, ?_⟩
    have s05 : Stp [r] H H5 := (s1.trans (s2.trans (s3.trans (s4.trans s5)))).sub (by simp)
    have hsgl : (⟨#[sg]⟩ : Str).length = 1 := rfl
    have hsgs : Sml ⟨#[sg]⟩ := fun d hd => by
      have : d = sg := by simpa [tl] using hd
      omega
    obtain ⟨n, rfl⟩ : ∃ n : Nat, pl = n := ⟨pl.toNat, by omega⟩
    have hzl := len_tl z
    by_cases h3 : way < 3
    · rw [if_pos h3]
      refine ⟨n, rfl, by omega, by omega, fun p6 hp6 => ?_⟩
      generalize hh6 : upd H5 p6 _ = H6
      have s6 : Stp [] H5 H6 := by rw [← hh6]; exact Stp.new hp6
      have e6 : H6 p6 = some (.lst [.str ⟨#[sg]⟩, .str "", .str ⟨#[sg]⟩]) := by rw [← hh6]; exact upd_same
      have hR6 := hR5.st0 s6
      have s06 : Stp [r] H H6 := (s05.trans s6).sub (by simp)
      obtain ⟨md, hm, hml, hms⟩ : ∃ md : Str, atI [V.str ⟨#[sg]⟩, V.str "", V.str ⟨#[sg]⟩] way = some (.str md) ∧ md.length ≤ 1 ∧ Sml md := by
        rcases (show way = 0 ∨ way = 1 ∨ way = 2 by omega) with rfl | rfl | rfl
        · exact ⟨_, rfl, by omega, hsgs⟩
        · exact ⟨Str.ofString "", rfl, by decide, fun c hc => by cases hc⟩
        · exact ⟨_, rfl, by omega, hsgs⟩
      refine ixL (.inl (.inl e6)) hm ?_
      have hcu := cut_upto z n
      have hlu : (cutS z none (some (n : Int))).length = min n z.length := by rw [len_tl, hcu, List.length_take, ← hzl]
      refine ⟨md, rfl, by omega, way, rfl, .inr ⟨_, rfl, n, rfl, _, rfl, by omega, ?_⟩⟩
      obtain ⟨m, hm2, hmn, hme⟩ : ∃ m : Nat, ((n : Int) + (if decide ((0 : Int) < way) = true then 1 else 0)) = (m : Int) ∧ n ≤ m ∧ m ≤ n + 1 := by
        by_cases hw : (0 : Int) < way
        · exact ⟨n + 1, by rw [if_pos (decide_eq_true hw)]; omega, by omega, by omega⟩
        · exact ⟨n, by rw [if_neg (by simpa using hw)]; omega, by omega, by omega⟩
      rw [hm2]
      have hcf := cut_from z m
      have hlf : (cutS z (some (m : Int)) none).length = z.length - m := by rw [len_tl, hcf, List.length_drop, ← hzl]
      have hlm : (cutS z none (some (n : Int)) ++ md).length = min n z.length + md.length := by rw [len_tl, tl_append, List.length_append, ← len_tl, ← len_tl, hlu]
      refine ⟨by omega, k _ _ ?_ ?_ hR6 s06⟩
      · rw [len_tl, tl_append, List.length_append, ← len_tl, ← len_tl, hlm, hlf]
        omega
      · refine Sml.app (Sml.app (fun c hc => ?_) hms) fun c hc => ?_
        · rw [hcu] at hc
          exact hs c (List.mem_of_mem_take hc)
        · rw [hcf] at hc
          exact hs c (List.mem_of_mem_drop hc)
    · rw [if_neg h3]
      have hC : cost (Txt.split z "\n") = z.length + 1 := cost_split (y := "\n") (s := 10) tl_nl (by decide +kernel)
      have hCs : Smls (Txt.split z "\n") := hs.split (y := "\n") tl_nl (by decide +kernel)
      have hCn := split_ne (x := z) (y := "\n") (s := 10) tl_nl (by decide +kernel)
      have hnl1 : (tl (Str.ofString "\n")).length ≤ 1 := by rw [tl_nl]; decide
      have hnls : Sml (Str.ofString "\n") := by intro c hc; rw [tl_nl] at hc; rw [List.mem_singleton.mp hc]; decide
      refine ⟨by rw [len_tl, tl_nl]; rfl, by omega, fun p6 hp6 => ?_⟩
      have hW' : Txt.split z (Str.ofString "\n") = Txt.split z "\n" := rfl
      rw [hW']
      generalize Txt.split z "\n" = L at *
      have hL1 : 1 ≤ L.length := by
        cases L with
        | nil => exact absurd rfl hCn
        | cons => simp
      have hLc := cost_len L
      generalize hh6 : upd H5 p6 _ = H6
      have s6 : Stp [] H5 H6 := by rw [← hh6]; exact Stp.new hp6
      have e6 : H6 p6 = some (.lst (L.map V.str)) := by rw [← hh6]; exact upd_same
      have hR6 := hR5.st0 s6
      have hpr6 := row_ne hR5 hp6
      refine ⟨p6, rfl, _, .inl (.inl (.inl e6)), r, sc, ns, _, rfl, hR6, by rw [List.length_map]; omega, fun kk H7 k0 k1 hR7 s7 => ⟨way, rfl, ?_⟩⟩
      rw [List.length_map] at k1
      have e7 := s7.keep _ _ e6 (by simpa using hpr6)
      obtain ⟨n2, rfl⟩ : ∃ n2 : Nat, kk = n2 := ⟨kk.toNat, by omega⟩
      have hn2 : n2 < L.length := by omega
      have s07 : Stp [r] H H7 := (s05.trans (s6.trans s7)).sub (by simp)
      have hcut := cost_cut L n2
      have hcut1 := cost_cut L (n2 + 1)
      have hat2 := cost_at (List.getElem?_eq_getElem hn2)
      have lt : ∀ m, (L.take m).length ≤ L.length := fun m => by rw [List.length_take]; omega
      have ld : ∀ m, (L.drop m).length ≤ L.length := fun m => by rw [List.length_drop]; omega
      by_cases h6 : way < 6
      · rw [if_pos h6]
        refine ⟨_, rfl, sl_up n2 rfl e7 fun q1 G1 hq1 t1 g1 => ⟨_, rfl, sl_fr (n2 + 1) (by omega) (t1.keep _ _ e7 (by simp)) fun q2 G2 hq2 t2 g2 => ?_⟩⟩
        have u2 : Stp [] H7 G2 := (t1.trans t2).sub (by simp)
        refine cat_up (t2.keep _ _ g1 (by simp)) g2 (by have := lt n2; have := ld (n2 + 1); omega) fun q3 G3 hq3 t3 g3 => ?_
        have u3 : Stp [] H7 G3 := (u2.trans t3).sub (by simp)
        refine ⟨_, rfl, sl_up (n2 + 1) (by omega) (u3.keep _ _ e7 (by simp)) fun q4 G4 hq4 t4 g4 => ⟨_, rfl, sl_fr n2 rfl ((u3.trans t4).keep _ _ e7 (by simp)) fun q5 G5 hq5 t5 g5 => ?_⟩⟩
        have u5 : Stp [] H7 G5 := (u3.trans (t4.trans t5)).sub (by simp)
        refine cat_up (t5.keep _ _ g4 (by simp)) g5 (by have := lt (n2 + 1); have := ld n2; omega) fun q6 G6 hq6 t6 g6 => ?_
        have u6 : Stp [] H7 G6 := (u5.trans t6).sub (by simp)
        refine ⟨_, rfl, sl_fr n2 rfl (u6.keep _ _ e7 (by simp)) fun q7 G7 hq7 t7 g7 => ⟨_, rfl, sl_up n2 rfl ((u6.trans t7).keep _ _ e7 (by simp)) fun q8 G8 hq8 t8 g8 => ?_⟩⟩
        have u8 : Stp [] H7 G8 := (u6.trans (t7.trans t8)).sub (by simp)
        refine cat_up (t8.keep _ _ g7 (by simp)) g8 (by have := lt n2; have := ld n2; omega) fun q9 G9 hq9 t9 g9 => ?_
        have u9 : Stp [] H7 G9 := (u8.trans t9).sub (by simp)
        refine ⟨by omega, fun q10 hq10 => ⟨_, rfl, ?_⟩⟩
        generalize hh10 : upd G9 q10 _ = G10
        have t10 : Stp [] G9 G10 := by rw [← hh10]; exact Stp.new hq10
        have e10 : G10 q10 = some (.lst [.ref q3, .ref q6, .ref q9]) := by rw [← hh10]; exact upd_same
        have u10 : Stp [] H7 G10 := (u9.trans t10).sub (by simp)
        obtain ⟨q, ps, hq, hps, hpc, hpm⟩ : ∃ (q : Addr) (ps : List Str), atI [V.ref q3, V.ref q6, V.ref q9] (way - 3) = some (.ref q) ∧ G10 q = some (.lst (ps.map V.str)) ∧ cost ps ≤ 2 * z.length + 10 ∧ Smls ps := by
          have x3 : G10 q3 = _ := t10.keep _ _ (t9.keep _ _ (t8.keep _ _ (t7.keep _ _ (t6.keep _ _ (t5.keep _ _ (t4.keep _ _ g3 (by simp)) (by simp)) (by simp)) (by simp)) (by simp)) (by simp)) (by simp)
          have x6 : G10 q6 = _ := t10.keep _ _ (t9.keep _ _ (t8.keep _ _ (t7.keep _ _ g6 (by simp)) (by simp)) (by simp)) (by simp)
          have x9 : G10 q9 = _ := t10.keep _ _ g9 (by simp)
          rcases (show way = 3 ∨ way = 4 ∨ way = 5 by omega) with rfl | rfl | rfl
          · exact ⟨q3, _, rfl, x3, by rw [cost_app]; omega, (hCs.take _).app (hCs.drop _)⟩
          · exact ⟨q6, _, rfl, x6, by rw [cost_app]; omega, (hCs.take _).app (hCs.drop _)⟩
          · exact ⟨q9, _, rfl, x9, by rw [cost_app]; omega, (hCs.drop _).app (hCs.take _)⟩
        refine ixL (.inl (.inl e10)) hq ⟨q, rfl, ps, .inl (.inl (.inl hps)), ?_, k _ _ (Nat.le_trans (cost_join hnl1 ps) hpc) (hpm.join hnls) ((hR7.st0 u10)) ((s07.trans u10).sub (by simp))⟩
        have h1 : (Str.ofString "\n").length = 1 := by rw [len_tl, tl_nl]; rfl
        rw [h1]
        unfold cost at hpc
        omega
      · rw [if_neg h6]
        have hwz : L[n2].length + 1 ≤ z.length + 1 := by omega
        have hws : Sml L[n2] := hCs _ (List.getElem_mem hn2)
        have hatL : atI (L.map V.str) (n2 : Int) = some (.str L[n2]) := by
          unfold atI ixN
          rw [List.length_map, if_pos (by omega), if_pos (by omega)]
          show (L.map V.str)[((n2 : Nat) : Int).toNat]? = _
          rw [Int.toNat_natCast, List.getElem?_map, List.getElem?_eq_getElem hn2]
          rfl
        generalize hwd : L[n2] = wd at *
        refine ixL (.inl (.inl e7)) hatL ⟨⟨_, rfl⟩, wd, rfl, by rw [len_tl, tl_sp]; rfl, by omega, fun p8 hp8 => ?_⟩
        have hD : cost (Txt.split wd " ") = wd.length + 1 := cost_split (y := " ") (s := 32) tl_sp (by decide +kernel)
        have hDs : Smls (Txt.split wd " ") := hws.split (y := " ") tl_sp (by decide +kernel)
        have hDn := split_ne (x := wd) (y := " ") (s := 32) tl_sp (by decide +kernel)
        have hWd' : Txt.split wd (Str.ofString " ") = Txt.split wd " " := rfl
        rw [hWd']
        generalize Txt.split wd " " = D at *
        have hD1 : 1 ≤ D.length := by
          cases D with
          | nil => exact absurd rfl hDn
          | cons => simp
        have hDc := cost_len D
        generalize hh8 : upd H7 p8 _ = H8
        have s8 : Stp [] H7 H8 := by rw [← hh8]; exact Stp.new hp8
        have e8 : H8 p8 = some (.lst (D.map V.str)) := by rw [← hh8]; exact upd_same
        have hR8 := hR7.st0 s8
        have hpr8 := row_ne hR7 hp8
        refine ⟨p8, rfl, _, .inl (.inl (.inl e8)), r, sc, ns, _, rfl, hR8, by rw [List.length_map]; omega, fun jj H9 j0 j1 hR9 s9 => ⟨by omega, fun pa hpa => ⟨by omega, fun pb hpb => ?_⟩⟩⟩
        rw [List.length_map] at j1
        have e89 := s9.keep _ _ e8 (by simpa using hpr8)
        have e79 := s9.keep _ _ (s8.keep _ _ e7 (by simp)) (by simpa using hpr6)
        obtain ⟨n3, rfl⟩ : ∃ n3 : Nat, jj = n3 := ⟨jj.toNat, by omega⟩
        have hn3 : n3 < D.length := by omega
        generalize hha : upd H9 pa _ = HA
        have sa : Stp [] H9 HA := by rw [← hha]; exact Stp.new hpa
        have ea : HA pa = some (.lst ((oddL.take 14).map V.str)) := by rw [← hha]; exact upd_same
        rw [hha] at hpb
        generalize hhb : upd HA pb _ = HB
        have sb : Stp [] HA HB := by rw [← hhb]; exact Stp.new hpb
        have eb : HB pb = some (.lst ((oddL.drop 14).map V.str)) := by rw [← hhb]; exact upd_same
        refine cat_up (sb.keep _ _ ea (by simp)) eb (by decide) fun po HC hpo sc' eo => ?_
        have eo' : HC po = some (.lst (oddL.map V.str)) := eo
        have sac : Stp [] H9 HC := (sa.trans (sb.trans sc')).sub (by simp)
        have e8C := sac.keep _ _ e89 (by simp)
        have e7C := sac.keep _ _ e79 (by simp)
        have hRC := hR9.st0 sac
        have s0C : Stp [r] H HC := (s07.trans (s8.trans (s9.trans sac))).sub (by simp)
        have hatD : atI (D.map V.str) (n3 : Int) = some (.str D[n3]) := by
          unfold atI ixN
          rw [List.length_map, if_pos (by omega), if_pos (by omega)]
          show (D.map V.str)[((n3 : Nat) : Int).toNat]? = _
          rw [Int.toNat_natCast, List.getElem?_map, List.getElem?_eq_getElem hn3]
          rfl
        have hDat := cost_at (List.getElem?_eq_getElem hn3)
        have hDcut := cost_cut D n3
        have hDcut1 := cost_cut D (n3 + 1)
        have hwjs : Sml D[n3] := hDs _ (List.getElem_mem hn3)
        generalize D[n3] = wj at *
        have ltD : ∀ m, (D.take m).length ≤ D.length := fun m => by rw [List.length_take]; omega
        have ldD : ∀ m, (D.drop m).length ≤ D.length := fun m => by rw [List.length_drop]; omega
        refine ⟨_, rfl, sl_up n3 rfl e8C fun q1 M1 hq1 t1 g1 => ⟨Nat.zero_le _, fun q2 hq2 => ?_⟩⟩
        generalize hm2 : upd M1 q2 _ = M2
        have t2 : Stp [] M1 M2 := by rw [← hm2]; exact Stp.new hq2
        have g2 : M2 q2 = some (.lst (([] : List Str).map V.str)) := by rw [← hm2]; exact upd_same
        have u2 : Stp [] HC M2 := (t1.trans t2).sub (by simp)
        refine ixL (.inl (.inl (u2.keep _ _ e8C (by simp)))) hatD fun q3 hq3 => ?_
        generalize hm3 : upd M2 q3 _ = M3
        have t3 : Stp [] M2 M3 := by rw [← hm3]; exact Stp.new hq3
        have g3 : M3 q3 = some (.lst [V.str wj]) := by rw [← hm3]; exact upd_same
        refine ⟨q3, 2, _, rfl, rfl, g3, by decide, by decide, by show 1 * 2 ≤ sizeLine; omega, fun q4 hq4 => ?_⟩
        generalize hm4 : upd M3 q4 _ = M4
        have t4 : Stp [] M3 M4 := by rw [← hm4]; exact Stp.new hq4
        have g4 : M4 q4 = some (.lst ([wj, wj].map V.str)) := by rw [← hm4]; exact upd_same
        have u4 : Stp [] HC M4 := (u2.trans (t3.trans t4)).sub (by simp)
        have hRM4 := hRC.st0 u4
        refine ⟨r, sc, ns, 17, rfl, hRM4, by decide, fun co M5 co0 co1 hRM5 t5 => ?_⟩
        obtain ⟨ow, hoat, hosm, hol⟩ := odd_at co0 co1
        have ner : ∀ {b : Addr} {o : HO} {Hx : Hp}, Hx r ≠ none → Hx b = none → b ≠ r := fun h1 h2 e => h1 (by rw [← e]; exact h2)
        have hrn : ∀ {Hx : Hp}, RowAt K Hx r sc ns → Hx r ≠ none := fun h z => by
          obtain ⟨_, _, _, _, _, h1, _⟩ := h
          rw [h1] at z
          cases z
        have k5 : ∀ {b o}, M4 b = some o → b ≠ r → M5 b = some o := fun h hb => t5.keep _ _ h (by simpa using hb)
        have nq1 : q1 ≠ r := row_ne hRC hq1
        have nq2 : q2 ≠ r := row_ne (hRC.st0 t1) hq2
        have nq4 : q4 ≠ r := row_ne (hRC.st0 ((u2.trans t3).sub (G := []) (by simp))) hq4
        have npo : po ≠ r := row_ne (hR9.st0 ((sa.trans sb).sub (G := []) (by simp))) hpo
        refine ixL (.inl (.inl (k5 (u4.keep _ _ eo' (by simp)) npo))) hoat fun q5 hq5 => ?_
        generalize hm6 : upd M5 q5 _ = M6
        have t6 : Stp [] M5 M6 := by rw [← hm6]; exact Stp.new hq5
        have g6 : M6 q5 = some (.lst ([ow].map V.str)) := by rw [← hm6]; exact upd_same
        refine ⟨by omega, fun q6 hq6 => ⟨_, rfl, ?_⟩⟩
        generalize hm7 : upd M6 q6 _ = M7
        have t7 : Stp [] M6 M7 := by rw [← hm7]; exact Stp.new hq6
        have g7 : M7 q6 = some (.lst [.ref q2, .ref q4, .ref q5]) := by rw [← hm7]; exact upd_same
        have t67 : Stp [] M5 M7 := (t6.trans t7).sub (by simp)
        have f1 : M7 q1 = _ := t67.keep _ _ (k5 ((t2.trans (t3.trans t4)).keep _ _ g1 (by simp)) nq1) (by simp)
        have f2 : M7 q2 = _ := t67.keep _ _ (k5 ((t3.trans t4).keep _ _ g2 (by simp)) nq2) (by simp)
        have f4 : M7 q4 = _ := t67.keep _ _ (k5 g4 nq4) (by simp)
        have f5 : M7 q5 = _ := t7.keep _ _ g6 (by simp)
        have hp8r : p8 ≠ r := hpr8
        have f8 : M7 p8 = _ := t67.keep _ _ (k5 (u4.keep _ _ e8C (by simp)) hp8r) (by simp)
        have fL : M7 p6 = _ := t67.keep _ _ (k5 (u4.keep _ _ e7C (by simp)) hpr6) (by simp)
        have hRM7 := hRM5.st0 t67
        have s0M : Stp [r] H M7 := (s0C.trans (u4.trans (t5.trans t67))).sub (by simp)
        obtain ⟨qm, md, hqm, hmd, hmc, hms⟩ : ∃ (qm : Addr) (md : List Str), atI [V.ref q2, V.ref q4, V.ref q5] (way - 6) = some (.ref qm) ∧ M7 qm = some (.lst (md.map V.str)) ∧ cost md ≤ 2 * (wj.length + 1) + 6 ∧ Smls md := by
          rcases (show way = 6 ∨ way = 7 ∨ way = 8 by omega) with rfl | rfl | rfl
          · exact ⟨q2, _, rfl, f2, by show 0 ≤ _; omega, fun w hw => by cases hw⟩
          · exact ⟨q4, _, rfl, f4, by rw [cost_cons, cost_cons]; show wj.length + 1 + (wj.length + 1 + 0) ≤ _; omega, fun w hw => by
              simp only [List.mem_cons, List.not_mem_nil, or_false, or_self] at hw
              rw [hw]; exact hwjs⟩
          · exact ⟨q5, _, rfl, f5, by rw [cost_cons]; show ow.length + 1 + 0 ≤ _; omega, fun w hw => by
              rw [List.mem_singleton.mp hw]; exact hosm⟩
        have hmdl := cost_len md
        refine ixL (.inl (.inl g7)) hqm ?_
        refine cat_up f1 hmd (by have := ltD n3; omega) fun q7 M8 hq7 t8 g8 => ?_
        refine ⟨_, rfl, sl_fr (n3 + 1) (by omega) (t8.keep _ _ f8 (by simp)) fun q8 M9 hq8 t9 g9 => ?_⟩
        refine cat_up (t9.keep _ _ g8 (by simp)) g9 (by have := ltD n3; have := ldD (n3 + 1); rw [List.length_append]; omega) fun q9 M10 hq9 t10 g10 => ?_
        have hDc' : cost (D.take n3 ++ md ++ D.drop (n3 + 1)) ≤ 2 * (wd.length + 1) + 6 := by rw [cost_app, cost_app]; omega
        have hDs' : Smls (D.take n3 ++ md ++ D.drop (n3 + 1)) := ((hDs.take _).app hms).app (hDs.drop _)
        generalize D.take n3 ++ md ++ D.drop (n3 + 1) = D' at *
        have v10 : Stp [] M7 M10 := (t8.trans (t9.trans t10)).sub (by simp)
        refine ⟨_, rfl, sl_up n2 rfl (v10.keep _ _ fL (by simp)) fun q10 M11 hq10 t11 g11 => ?_⟩
        have hsp1 : (Str.ofString " ").length = 1 := by rw [len_tl, tl_sp]; rfl
        have hnl2 : (Str.ofString "\n").length = 1 := by rw [len_tl, tl_nl]; rfl
        refine ⟨q9, rfl, D', .inl (.inl (.inl (t11.keep _ _ g10 (by simp)))), by rw [hsp1]; unfold cost at hDc'; omega, fun q11 hq11 => ?_⟩
        have hjl := cost_join (y := " ") (by rw [tl_sp]; decide) D'
        have hjs : Sml (Txt.join " " D') := hDs'.join (by intro c hc; rw [tl_sp] at hc; rw [List.mem_singleton.mp hc]; decide)
        have hJ : Txt.join (Str.ofString " ") D' = Txt.join " " D' := rfl
        rw [hJ]
        generalize Txt.join " " D' = wd' at *
        generalize hm12 : upd M11 q11 _ = M12
        have t12 : Stp [] M11 M12 := by rw [← hm12]; exact Stp.new hq11
        have g12 : M12 q11 = some (.lst ([wd'].map V.str)) := by rw [← hm12]; exact upd_same
        refine cat_up (t12.keep _ _ g11 (by simp)) g12 (by have := lt n2; show _ + 1 ≤ _; omega) fun q12 M13 hq12 t13 g13 => ?_
        have v13 : Stp [] M7 M13 := (v10.trans (t11.trans (t12.trans t13))).sub (by simp)
        refine ⟨_, rfl, sl_fr (n2 + 1) (by omega) (v13.keep _ _ fL (by simp)) fun q13 M14 hq13 t14 g14 => ?_⟩
        refine cat_up (t14.keep _ _ g13 (by simp)) g14 (by have := lt n2; have := ld (n2 + 1); rw [List.length_append]; show _ + 1 + _ ≤ _; omega) fun q14 M15 hq14 t15 g15 => ?_
        have v15 : Stp [] M7 M15 := (v13.trans (t14.trans t15)).sub (by simp)
        have hLc' : cost (L.take n2 ++ [wd'] ++ L.drop (n2 + 1)) ≤ 2 * z.length + 10 := by
          rw [cost_app, cost_app, cost_cons]
          show cost (L.take n2) + (wd'.length + 1 + 0) + cost (L.drop (n2 + 1)) ≤ _
          omega
        have hLs' : Smls (L.take n2 ++ [wd'] ++ L.drop (n2 + 1)) := ((hCs.take _).app (fun w hw => by rw [List.mem_singleton.mp hw]; exact hjs)).app (hCs.drop _)
        refine ⟨q14, rfl, _, .inl (.inl (.inl g15)), ?_, k _ _ (Nat.le_trans (cost_join hnl1 _) hLc') (hLs'.join hnls) (hRM7.st0 v15) ((s0M.trans v15).sub (by simp))⟩
        rw [hnl2]
        unfold cost at hLc'
        omega
end
end Mx

namespace Mx
open PySem L2 TL
set_option hygiene false in
local macro_rules | `(tactic| walk_at "rd") => `(tactic| try simp only [L2.start, List.map_cons, List.map_nil, List.length_cons, List.length_nil, Nat.reduceAdd, Nat.reduceSub, Nat.reduceLT, Nat.reduceLeDiff, List.replicate_succ, List.replicate_zero, List.append_nil, List.nil_append, List.cons_append, List.set_cons_zero, List.set_cons_succ, List.getElem?_cons_zero, List.getElem?_cons_succ,
  Option.some.injEq, List.cons.injEq, and_true, true_and, and_assoc, reduceCtorEq, L2.V.int.injEq, L2.V.ref.injEq, L2.V.bl.injEq, L2.V.str.injEq, L2.V.ty.injEq, L2.HO.ins.injEq, L2.HO.lst.injEq, L2.HO.tup.injEq, L2.HO.dK.injEq, exists_eq_left', exists_eq_left, exists_eq_right, exists_eq', exists_eq, exists_and_left, exists_and_right, reduceIte, Bool.false_eq_true, Bool.not_true, Bool.not_false,
  L2.tSeq, L2.tIfS, L2.tRet, L2.tRetN, L2.tNext, L2.tAsg, L2.gName, L2.tVar, L2.tC, L2.tCons, L2.tNil, L2.tCB, L2.tOp, L2.tUn, L2.tTup, L2.tLst, L2.tB, L2.tOr, L2.tAnd, L2.tNot, L2.tAndV, L2.tOrV, L2.tNotV, L2.tIf, L2.tTest, L2.tChain, L2.rI, L2.rI0, L2.rU, L2.tDrop, L2.tNever, L2.tCall, L2.tMeth, L2.tMake, L2.rGcd, L2.tFld, L2.sFld, L2.sFldAug, Mx.sFldA, Mx.sFldAugA, L2.rAdd, L2.rSub, L2.rEq, L2.rNe, L2.tDGet, L2.tDIn, L2.tDNotIn, L2.sDPut,
  Mx.isi_int_bool, Mx.isi_int_int, Mx.isi_int_tuple, Mx.isi_int_list, Mx.isi_int_str, Mx.scal_int, Mx.scal_str, Mx.scal_bl, Mx.ofString_inj, Mx.ofString_beq, Mx.lk_cons, Mx.pf_nil, Mx.pf_cons, Mx.sz1, Mx.sz2, List.lookup_nil, String.reduceEq, decide_true, decide_false, decide_eq_true_eq, Int.natAbs_natCast, L2.upd_same, L2.upd_upd, L2.cxOf, L2.gSub, L2.tPar, L2.gCons, L2.gNil, L2.tSl, L2.tPart, L2.rSlL, L2.rSlT, L2.tNoPart, L2.tM1])
set_option hygiene false in
local macro_rules | `(tactic| walk_at "rds") => `(tactic| try simp only [L2.start, List.map_cons, List.map_nil, List.length_cons, List.length_nil, Nat.reduceAdd, Nat.reduceSub, Nat.reduceLT, Nat.reduceLeDiff, List.replicate_succ, List.replicate_zero, List.append_nil, List.nil_append, List.cons_append, List.set_cons_zero, List.set_cons_succ, List.getElem?_cons_zero, List.getElem?_cons_succ,
  Option.some.injEq, List.cons.injEq, and_true, true_and, and_assoc, reduceCtorEq, L2.V.int.injEq, L2.V.ref.injEq, L2.V.bl.injEq, L2.V.str.injEq, L2.V.ty.injEq, L2.HO.ins.injEq, L2.HO.lst.injEq, L2.HO.tup.injEq, L2.HO.dK.injEq, exists_eq_left', exists_eq_left, exists_eq_right, exists_eq', exists_eq, exists_and_left, exists_and_right, reduceIte, Bool.false_eq_true, Bool.not_true, Bool.not_false,
  L2.tSeq, L2.tIfS, L2.tRet, L2.tRetN, L2.tNext, L2.tAsg, L2.gName, L2.tVar, L2.tC, L2.tCons, L2.tNil, L2.tCB, L2.tOp, L2.tUn, L2.tTup, L2.tLst, L2.tB, L2.tOr, L2.tAnd, L2.tNot, L2.tAndV, L2.tOrV, L2.tNotV, L2.tIf, L2.tTest, L2.tChain, L2.rI, L2.rI0, L2.rU, L2.tDrop, L2.tNever, L2.tCall, L2.tMeth, L2.tMake, L2.rGcd, L2.tFld, L2.sFld, L2.sFldAug, Mx.sFldA, Mx.sFldAugA, L2.rAdd, L2.rSub, L2.rEq, L2.rNe, L2.tDGet, L2.tDIn, L2.tDNotIn, L2.sDPut,
  Mx.isi_int_bool, Mx.isi_int_int, Mx.isi_int_tuple, Mx.isi_int_list, Mx.isi_int_str, Mx.scal_int, Mx.scal_str, Mx.scal_bl, Mx.ofString_inj, Mx.ofString_beq, Mx.lk_cons, Mx.pf_nil, Mx.pf_cons, Mx.sz1, Mx.sz2, List.lookup_nil, String.reduceEq, decide_true, decide_false, decide_eq_true_eq, Int.natAbs_natCast, L2.upd_same, L2.upd_upd, L2.cxOf, L2.gSub, L2.tPar, L2.gCons, L2.gNil, L2.tSl, L2.tPart, L2.rSlL, L2.rSlT, L2.tNoPart, L2.tM1, *])

/-! ### the same deeds, at other places -/
section
variable {P : Program} {w : World} {K : PySem.W.Frag} {mg : Str → Option Value} {base : Heap}
theorem eq_oV {H : Hp} {n : Nat} (o : Option Int) : EqT K H n (oV o) (oV o) := by
  have h : EqB (oV o) (oV o) := by
    cases o with
    | none => exact .inr (.inr ⟨rfl, rfl⟩)
    | some i => exact .inl ⟨i, rfl, rfl⟩
  cases n with
  | zero => exact h
  | succ n => exact .inl h
theorem eq_oVs {H : Hp} {n : Nat} : ∀ xs : List (Option Int), Paired (EqT K H n) (xs.map oV) (xs.map oV)
  | [] => .nil
  | o :: r => .cons (eq_oV o) (eq_oVs r)
theorem eq_rv {H : Hp} {r : RV} {v v' : V} (h : RVat K H r v) (h' : RVat K H r v') (hl : ∀ xs, r = .inr xs → xs.length ≤ 100000) : EqT K H 1 v v' := by
  cases r with
  | inl o =>
    have e : v = oV o := h
    have e' : v' = oV o := h'
    rw [e, e']
    exact eq_oV o
  | inr xs =>
    obtain ⟨t, rfl, ht⟩ := h
    obtain ⟨t', rfl, ht'⟩ := h'
    exact .inr ⟨t, t', _, _, rfl, rfl, .inl ⟨ht, ht'⟩, by rw [List.length_map]; exact hl xs rfl, eq_oVs xs⟩
theorem eq_rvs {H : Hp} : ∀ {rs : List RV} {vs vs' : List V}, Paired (RVat K H) rs vs → Paired (RVat K H) rs vs' → (∀ xs, Sum.inr xs ∈ rs → xs.length ≤ 100000) → Paired (EqT K H 1) vs vs'
  | _, _, _, .nil, .nil, _ => .nil
  | _, _, _, .cons h r, .cons h' r', hl => .cons (eq_rv h h' fun xs e => hl xs (by rw [e]; simp)) (eq_rvs r r' fun xs hx => hl xs (List.mem_cons_of_mem _ hx))
theorem eq_dd {H : Hp} {d : DD} {a b : Addr} (h : d.at K H a) (h' : d.at K H b) (hk : okD d = true) : EqT K H 2 (.ref a) (.ref b) := by
  obtain ⟨vs, h1, h2⟩ := h
  obtain ⟨vs', h1', h2'⟩ := h'
  have hl := okD_len hk
  have hlen := h2.length
  exact .inr ⟨a, b, _, _, rfl, rfl, .inl ⟨h1, h1'⟩, by rw [List.length_cons]; have := (w_ne (Good.of hk).mem).2.2; omega, .cons (.inl (.inr (.inl ⟨_, ok_small (w_small (Good.of hk).mem), rfl, rfl⟩))) (eq_rvs h2 h2' hl.2)⟩
theorem eq_dds {H : Hp} : ∀ {ds : List DD} {ps qs : List Addr}, DDs K H ds ps → DDs K H ds qs → (∀ d ∈ ds, okD d = true) → Paired (EqT K H 2) (ps.map V.ref) (qs.map V.ref)
  | _, _, _, .nil, .nil, _ => .nil
  | _, _, _, .cons h r, .cons h' r', hk => .cons (eq_dd h h' (hk _ (by simp))) (eq_dds r r' fun d hd => hk d (List.mem_cons_of_mem _ hd))
theorem eq_lst {H : Hp} {ds : List DD} {a b : Addr} {ps qs : List Addr} (ha : H a = some (.lst (ps.map V.ref))) (hb : H b = some (.lst (qs.map V.ref))) (h : DDs K H ds ps) (h' : DDs K H ds qs) (hk : ∀ d ∈ ds, okD d = true) (hl : ps.length ≤ 100000) : EqT K H 3 (.ref a) (.ref b) :=
  .inr ⟨a, b, _, _, rfl, rfl, .inr ⟨ha, hb⟩, by rw [List.length_map]; exact hl, eq_dds h h' hk⟩

open LamX
/-! ### what stays, tables apart -/
theorem Rd.ext {H H' : Hp} {a : Addr} {xs : List V} (h : Rd H a (.lst xs)) (e : ExtN H H') : Rd H' a (.lst xs) := by
  rcases h with h | ⟨o, h⟩
  · exact .inl (e _ _ h fun _ z => nomatch z)
  · exact .inr ⟨o, e _ _ h fun _ z => nomatch z⟩
theorem sq_ext {K : PySem.W.Frag} {H H' : Hp} {a : Addr} {xs : List V} (h : SqL K H a xs) (e : ExtN H H') : SqL K H' a xs := h.elim (fun q => .inl (Rd.ext q e)) .inr
theorem RowAt.ext {K : PySem.W.Frag} {H H' : Hp} {r sc : Addr} {ns : List Int} (h : RowAt K H r sc ns) (e : ExtN H H') : RowAt K H' r sc ns := by
  obtain ⟨pos, mix, p0, m0, m1, hr, hs, hn⟩ := h
  exact ⟨pos, mix, p0, m0, m1, e _ _ hr (fun _ z => nomatch z), sq_ext hs e, hn⟩
theorem tabs_stp {T : List (Addr × Str)} {F : List Addr} {H H' : Hp} (t : Tabs T H) (s : Stp F H H') (hF : ∀ b ∈ F, ∀ o, H b = some o → ∃ xs, o = .lst xs) : Tabs T H' := by
  intro p hp
  obtain ⟨ps, h1, h2, h3⟩ := t p hp
  refine ⟨ps, s.keep _ _ h1 fun z => ?_, h2, fun pos cv hc => ?_⟩
  · obtain ⟨xs, e⟩ := hF _ z _ h1
    cases e
  · obtain ⟨c, e, hcc⟩ := h3 pos cv hc
    refine ⟨c, e, s.keep _ _ hcc fun z => ?_⟩
    obtain ⟨xs, e⟩ := hF _ z _ hcc
    unfold CodeO at e
    cases e
theorem row_lst {K : PySem.W.Frag} {H : Hp} {r sc : Addr} {ns : List Int} (h : RowAt K H r sc ns) : ∃ xs, H r = some (.lst xs) := by
  obtain ⟨_, _, _, _, _, h1, _⟩ := h
  exact ⟨_, h1⟩
structure Iv (K : PySem.W.Frag) (T : List (Addr × Str)) (r sc : Addr) (ns : List Int) (pS : Addr) (SL : List Str) (H : Hp) : Prop where
  row : RowAt K H r sc ns
  so : H pS = some (.lst (SL.map V.str))
  ne : pS ≠ r
  tb : Tabs T H
section
variable {K : PySem.W.Frag} {T : List (Addr × Str)} {r sc : Addr} {ns : List Int} {pS : Addr} {SL : List Str} {H H' : Hp}
theorem Iv.st0 (h : Iv K T r sc ns pS SL H) (s : Stp [] H H') : Iv K T r sc ns pS SL H' := ⟨h.row.st0 s, s.keep _ _ h.so (by simp), h.ne, tabs_stp h.tb s (by simp)⟩
theorem Iv.str (h : Iv K T r sc ns pS SL H) (s : Stp [r] H H') (hR : RowAt K H' r sc ns) : Iv K T r sc ns pS SL H' := ⟨hR, s.keep _ _ h.so (by simpa using h.ne), h.ne, tabs_stp h.tb s fun b hb o ho => by
  rw [List.mem_singleton.mp hb] at ho
  obtain ⟨xs, e⟩ := row_lst h.row
  rw [e] at ho
  cases ho
  exact ⟨_, rfl⟩⟩
theorem Iv.ext (h : Iv K T r sc ns pS SL H) (e : ExtN H H') (t : Tabs T H') : Iv K T r sc ns pS SL H' := ⟨h.row.ext e, e _ _ h.so (fun _ z => nomatch z), h.ne, t⟩
end
/-! ### the odd texts -/
def tRepJ (y w : Str) (n : Nat) : TE := fun _ H Q => ∀ H', Stp [] H H' → Q (.str (Txt.join y (List.replicate n w))) H'
theorem sum_rep (n m : Nat) : (List.replicate n m).sum = n * m := by
  induction n with
  | zero => simp
  | succ n ih => rw [List.replicate_succ, List.sum_cons, ih, Nat.succ_mul]; omega
theorem flat_rep (n : Nat) (x : V) : (List.replicate n [x]).flatten = List.replicate n x := by simp
theorem repj_weak {K : PySem.W.Frag} {y w : Str} {n : Nat} (hn : n ≤ 1000) (hw : w.length ≤ 100) (hy : y.length ≤ 1) (σ : L2.St) (H : Hp) (Q : VK) (h : tRepJ y w n σ H Q) : tM1 (fun x xs H Q => ∃ a p, ∃ ys : List Str, x = .str a ∧ xs = [.ref p] ∧ (SqL K H p (ys.map V.str) ∨ SqT K H p (ys.map V.str)) ∧
      (ys.map (·.length)).sum + ys.length * a.length ≤ 16777216 ∧ Q (.str (Txt.join a ys)) H) (tC (.str y)) (tOp rRep (tLst (tCons (tC (.str w)) tNil)) (tC (.int (n : Int)))) σ H Q := by
  have hsz : (200000 : Nat) ≤ sizeLine := by decide
  refine ⟨⟨_, rfl⟩, by show 1 ≤ sizeLine; omega, fun p hp => ?_⟩
  refine ⟨p, (n : Int), [.str w], rfl, rfl, upd_same, by omega, by omega, by rw [Int.toNat_natCast]; show 1 * n ≤ sizeLine; omega, fun q hq => ?_⟩
  refine ⟨_, q, List.replicate n w, rfl, rfl, .inl (.inl (.inl ?_)), ?_, h _ (((Stp.new hp).trans (Stp.new hq)).sub (by simp))⟩
  · rw [upd_same, Int.toNat_natCast, flat_rep, List.map_replicate]
  · rw [List.map_replicate, sum_rep, List.length_replicate]
    have h1 := Nat.mul_le_mul hn hw
    have h2 := Nat.mul_le_mul hn hy
    show n * w.length + n * y.length ≤ _
    omega
def litL : List Str := ["", "\n", "beat", "beat\n", " beat", "beat ", "hush 999", "hush 1000", "hush 00", "hush -1", "hush -0", "wake", "parcel 0 0 -999,999", "parcel 0 0 1000", "parcel 0 0 -1000", "parcel 0 0 ", "parcel 0 0 1,", "parcel 0 0 ,1", "parcel 0 999 0", "parcel 0 1000 0", "parcel 0 -1 0", "parcel 0 0 -0", "parcel 0 0 1,,2", "add 0 1 1 0 64", "add 0 1 1 0", "add 0 1 1 0 64 0", "Beat", "beat 0"]
theorem lit_ok : ∀ w ∈ litL, (∀ c ∈ tl w, c < 128) ∧ w.length ≤ 30 := by decide +kernel
def repS (y w : Str) (n : Nat) : Str := Txt.join y (List.replicate n w)
theorem rep_ok {y w : Str} {n : Nat} (hy : Sml y) (hy1 : (tl y).length ≤ 1) (hw : Sml w) (hl : w.length ≤ 10) (hn : n ≤ 400) : Sml (repS y w n) ∧ (repS y w n).length ≤ 4400 := by
  refine ⟨Smls.join hy fun x hx => ?_, Nat.le_trans (cost_join hy1 _) ?_⟩
  · rw [(List.mem_replicate.mp hx).2]
    exact hw
  · unfold cost
    rw [List.map_replicate, sum_rep, List.length_replicate]
    have := Nat.mul_le_mul hn hl
    show n * w.length + n ≤ 4400
    omega
def lastS : Str := Txt.join "\n" (List.replicate 300 (Str.ofString "hush 5") ++ [Str.ofString "x"])
def parS (n : Nat) : Str := Str.ofString "parcel 0 0 " ++ repS "," "1" n
def someL : List Str := litL ++ [parS 32, parS 33, repS "\n" "beat" 300, repS "\n" "beat" 301, lastS]
theorem s_nl : Sml "\n" := by intro c hc; rw [tl_nl] at hc; rw [List.mem_singleton.mp hc]; decide
theorem s_com : Sml "," := by intro c hc; rw [tl_com] at hc; rw [List.mem_singleton.mp hc]; decide
theorem s_lit {s : String} (h : ∀ c ∈ s.toList.map Char.toNat, c < 128) : Sml (Str.ofString s) := by
  intro c hc
  rw [tl_ofString] at hc
  exact h c hc
theorem some_ok : ∀ w ∈ someL, Sml w ∧ w.length ≤ 5000 := by
  intro w hw
  unfold someL at hw
  have n1 : (tl (Str.ofString "\n")).length ≤ 1 := by rw [tl_nl]; decide
  have c1 : (tl (Str.ofString ",")).length ≤ 1 := by rw [tl_com]; decide
  have par : ∀ n ≤ 400, Sml (parS n) ∧ (parS n).length ≤ 5000 := fun n hn => by
    have h := rep_ok (y := ",") (w := "1") s_com c1 (s_lit (by decide)) (by decide +kernel) hn
    refine ⟨Sml.app (s_lit (by decide)) h.1, ?_⟩
    have hp : (Str.ofString "parcel 0 0 ").length = 11 := by decide +kernel
    unfold parS
    rw [len_tl, tl_append, List.length_append, ← len_tl, ← len_tl, hp]
    have := h.2
    omega
  rcases List.mem_append.mp hw with hw | hw
  · have := lit_ok w hw
    exact ⟨this.1, by omega⟩
  simp only [List.mem_cons, List.not_mem_nil, or_false] at hw
  rcases hw with rfl | rfl | rfl | rfl | rfl
  · exact par 32 (by decide)
  · exact par 33 (by decide)
  · have h := rep_ok (y := "\n") (w := "beat") (n := 300) s_nl n1 (s_lit (by decide)) (by decide +kernel) (by decide)
    exact ⟨h.1, by have := h.2; omega⟩
  · have h := rep_ok (y := "\n") (w := "beat") (n := 301) s_nl n1 (s_lit (by decide)) (by decide +kernel) (by decide)
    exact ⟨h.1, by have := h.2; omega⟩
  · refine ⟨Smls.join s_nl fun x hx => ?_, Nat.le_trans (cost_join n1 _) ?_⟩
    · rcases List.mem_append.mp hx with hx | hx
      · rw [(List.mem_replicate.mp hx).2]; exact s_lit (by decide)
      · rw [List.mem_singleton.mp hx]; exact s_lit (by decide)
    · rw [cost_app]
      unfold cost
      rw [List.map_replicate, sum_rep, List.length_replicate]
      have h6 : (Str.ofString "hush 5").length = 6 := by decide +kernel
      have h1 : (Str.ofString "x").length = 1 := by decide +kernel
      rw [h6]
      show 300 * 6 + 300 + ((Str.ofString "x").length + 0 + 1) ≤ 5000
      rw [h1]
      decide
theorem some_at {c : Int} (h0 : 0 ≤ c) (h1 : c < 33) : ∃ w, atI (someL.map V.str) c = some (.str w) ∧ Sml w ∧ w.length ≤ 5000 := by
  have hl : someL.length = 33 := rfl
  obtain ⟨w, h2, h3⟩ := at_strs (ps := someL) h0 (by omega)
  have := some_ok w (List.mem_of_getElem? h3)
  exact ⟨w, h2, this.1, this.2⟩
end
end Mx

namespace Mx
open PySem L2 TL LamX
set_option hygiene false in
local macro_rules | `(tactic| walk_at "rd") => `(tactic| try simp only [L2.start, List.map_cons, List.map_nil, List.length_cons, List.length_nil, Nat.reduceAdd, Nat.reduceSub, Nat.reduceLT, Nat.reduceLeDiff, List.replicate_succ, List.replicate_zero, List.append_nil, List.nil_append, List.cons_append, List.set_cons_zero, List.set_cons_succ, List.getElem?_cons_zero, List.getElem?_cons_succ,
  Option.some.injEq, List.cons.injEq, and_true, true_and, and_assoc, reduceCtorEq, L2.V.int.injEq, L2.V.ref.injEq, L2.V.bl.injEq, L2.V.str.injEq, L2.V.ty.injEq, L2.HO.ins.injEq, L2.HO.lst.injEq, L2.HO.tup.injEq, L2.HO.dK.injEq, exists_eq_left', exists_eq_left, exists_eq_right, exists_eq', exists_eq, exists_and_left, exists_and_right, reduceIte, Bool.false_eq_true, Bool.not_true, Bool.not_false,
  L2.tSeq, L2.tIfS, L2.tRet, L2.tRetN, L2.tNext, L2.tAsg, L2.gName, L2.tVar, L2.tC, L2.tCons, L2.tNil, L2.tCB, L2.tOp, L2.tUn, L2.tTup, L2.tLst, L2.tB, L2.tOr, L2.tAnd, L2.tNot, L2.tAndV, L2.tOrV, L2.tNotV, L2.tIf, L2.tTest, L2.tChain, L2.rI, L2.rI0, L2.rU, L2.tDrop, L2.tNever, L2.tCall, L2.tMeth, L2.tMake, L2.rGcd, L2.tFld, L2.sFld, L2.sFldAug, Mx.sFldA, Mx.sFldAugA, L2.rAdd, L2.rSub, L2.rEq, L2.rNe, L2.tDGet, L2.tDIn, L2.tDNotIn, L2.sDPut,
  Mx.isi_int_bool, Mx.isi_int_int, Mx.isi_int_tuple, Mx.isi_int_list, Mx.isi_int_str, Mx.scal_int, Mx.scal_str, Mx.scal_bl, Mx.ofString_inj, Mx.ofString_beq, Mx.lk_cons, Mx.pf_nil, Mx.pf_cons, Mx.sz1, Mx.sz2, List.lookup_nil, String.reduceEq, decide_true, decide_false, decide_eq_true_eq, Int.natAbs_natCast, L2.upd_same, L2.upd_upd, L2.cxOf, L2.gSub, L2.tPar, L2.gCons, L2.gNil, L2.tSl, L2.tPart, L2.tNoPart, L2.tM1, L2.rSlL])
set_option hygiene false in
local macro_rules | `(tactic| walk_at "rds") => `(tactic| try simp only [L2.start, List.map_cons, List.map_nil, List.length_cons, List.length_nil, Nat.reduceAdd, Nat.reduceSub, Nat.reduceLT, Nat.reduceLeDiff, List.replicate_succ, List.replicate_zero, List.append_nil, List.nil_append, List.cons_append, List.set_cons_zero, List.set_cons_succ, List.getElem?_cons_zero, List.getElem?_cons_succ,
  Option.some.injEq, List.cons.injEq, and_true, true_and, and_assoc, reduceCtorEq, L2.V.int.injEq, L2.V.ref.injEq, L2.V.bl.injEq, L2.V.str.injEq, L2.V.ty.injEq, L2.HO.ins.injEq, L2.HO.lst.injEq, L2.HO.tup.injEq, L2.HO.dK.injEq, exists_eq_left', exists_eq_left, exists_eq_right, exists_eq', exists_eq, exists_and_left, exists_and_right, reduceIte, Bool.false_eq_true, Bool.not_true, Bool.not_false,
  L2.tSeq, L2.tIfS, L2.tRet, L2.tRetN, L2.tNext, L2.tAsg, L2.gName, L2.tVar, L2.tC, L2.tCons, L2.tNil, L2.tCB, L2.tOp, L2.tUn, L2.tTup, L2.tLst, L2.tB, L2.tOr, L2.tAnd, L2.tNot, L2.tAndV, L2.tOrV, L2.tNotV, L2.tIf, L2.tTest, L2.tChain, L2.rI, L2.rI0, L2.rU, L2.tDrop, L2.tNever, L2.tCall, L2.tMeth, L2.tMake, L2.rGcd, L2.tFld, L2.sFld, L2.sFldAug, Mx.sFldA, Mx.sFldAugA, L2.rAdd, L2.rSub, L2.rEq, L2.rNe, L2.tDGet, L2.tDIn, L2.tDNotIn, L2.sDPut,
  Mx.isi_int_bool, Mx.isi_int_int, Mx.isi_int_tuple, Mx.isi_int_list, Mx.isi_int_str, Mx.scal_int, Mx.scal_str, Mx.scal_bl, Mx.ofString_inj, Mx.ofString_beq, Mx.lk_cons, Mx.pf_nil, Mx.pf_cons, Mx.sz1, Mx.sz2, List.lookup_nil, String.reduceEq, decide_true, decide_false, decide_eq_true_eq, Int.natAbs_natCast, L2.upd_same, L2.upd_upd, L2.cxOf, L2.gSub, L2.tPar, L2.gCons, L2.gNil, L2.tSl, L2.tPart, L2.tNoPart, L2.tM1, L2.rSlL, *])

theorem lc_relLm {K : PySem.W.Frag} {xs : List V} {i : Nat} {te : TE} {σ : L2.St} {H0 : Hp} {Q : VK} {tl : TE} (R : Hp → Nat → V → Prop) (htl : ∀ R' : VK, (∀ p H', H' p = some (.lst xs) → Stp [] H0 H' → R' (.ref p) H') → tl σ H0 R') (hn : xs.length ≤ 100000) (hR : ∀ F' H H' j y, R H j y → Stp F' H H' → R H' j y)
    (he : ∀ (j : Nat) (x : V) (H : Hp), xs[j]? = some x → Stp [] H0 H → ∀ Q' : VK, (∀ y H', R H' j y → Stp [] H H' → Q' y H') → te ((wipe σ [i]).set i (some x)) H Q')
    (k : ∀ D H' ys, Stp [] H0 H' → H' D = some (.lst ys) → Paired (R H') (List.range xs.length) ys → Q (.ref D) H') : tLc (iList K tl) (gName i) tYes te [i] σ H0 Q := by
  refine htl _ fun p H1 hp s0 => ⟨p, rfl, ⟨_, .inl (.inl hp)⟩, ?_⟩
  exact lc_rel (H9 := H0) (i := i) (tt := tYes) (te := te) (σ := σ) (Q := Q) (walk_list (K := K) (a := p) (xs := xs)) (F := []) (Z := fun _ => True) (R := R) (p := fun _ => true) (YX := fun j x => xs[j]? = some x) trivial (by simp) (fun _ _ _ _ _ _ _ => trivial) (fun H2 _ s => .inl (.inl (s.same _ _ hp))) hR hn (fun j H2 x H3 hj h => h)
    (fun j x H2 _ _ _ s Q' q => q H2 trivial s Stp.refl) (fun j x H2 hj hx _ _ s2 Q' q => he j x H2 hx ((s0.trans s2).sub (by simp)) Q' fun y H' hy s' => q y H' hy trivial ((s2.trans s').sub (by simp)) s') fun D H2 ys hD _ s2 h2 hp2 => by
      rw [List.filter_eq_self.mpr (fun _ _ => rfl)] at hp2
      exact k D H2 ys ((s0.trans s2).sub (by simp)) h2 hp2
/-- what the law's reader finds in the rows -/
def FndR (K : PySem.W.Frag) (H : Hp) (row : Str) (y : V) : Prop := (okD (rdRow row) = false ∧ y = .non) ∨ (okD (rdRow row) = true ∧ ∃ p, y = .ref p ∧ (rdRow row).at K H p)
theorem FndR.st {K : PySem.W.Frag} {F : List Addr} {H H' : Hp} {row : Str} {y : V} (h : FndR K H row y) (s : Stp F H H') : FndR K H' row y := by
  rcases h with h | ⟨h, p, e, hp⟩
  · exact .inl h
  · exact .inr ⟨h, p, e, hp.st s⟩
def FndL (K : PySem.W.Frag) (H : Hp) (rows : List Str) (ys : List V) : Prop := Paired (FndR K H) rows ys
theorem FndL.st {K : PySem.W.Frag} {F : List Addr} {H H' : Hp} {rows : List Str} {ys : List V} (h : FndL K H rows ys) (s : Stp F H H') : FndL K H' rows ys := pr_mapR (fun _ _ q => FndR.st q s) h
def tFound (K : PySem.W.Frag) (z : Str) : TE := fun σ H Q => σ[6]? = some (some (.str z)) ∧ 10 < σ.length ∧ z.length ≤ 90000 ∧ Sml z ∧ ∀ H' D ys, Stp [] H H' → H' D = some (.lst ys) → FndL K H' (rowsOf z) ys → Q (.ref D) H'
theorem found_weak {K : PySem.W.Frag} (z : Str) (σ : L2.St) (H : Hp) (Q : VK) (h : tFound K z σ H Q) : tIf (tTest (tOp rNe (tVar 6) (tC (.str "")))) (tLc (iList K (tM1 (fun x xs H Q => ∃ a b, x = .str a ∧ xs = [.str b] ∧ (b.length == 0) = false ∧ a.length + 2 ≤ sizeLine ∧ rNewStrs (Txt.split a b) H Q) (tVar 6) (tC (.str "\n")))) (gName 10) tYes (tCall (sp_law_read K) [] E0 (tCons (tVar 10) tNil)) [10]) (tLst tNil) σ H Q := by
  obtain ⟨h0, h10, hz, hs, k⟩ := h
  have hsz : (200000 : Nat) ≤ sizeLine := by decide
  refine ⟨_, h0, rfl, _, rfl, ?_⟩
  by_cases he : z = Str.ofString ""
  · have er : rowsOf z = [] := by
      unfold rowsOf
      rw [if_pos (he.trans (by rfl))]
    rw [er] at k
    rw [decide_eq_true (show V.str z = V.str (Str.ofString "") from by rw [he])]
    exact iteF ⟨Nat.zero_le _, fun p hp => k _ p [] (Stp.new hp) upd_same .nil⟩
  · have er : rowsOf z = Txt.split z (Str.ofString "\n") := by
      unfold rowsOf
      rw [if_neg fun q => he (q.trans (by rfl))]
    have hl := rows_len hz
    have hss : Smls (rowsOf z) := by
      rw [er]
      exact hs.split (y := "\n") tl_nl (by decide +kernel)
    rw [decide_eq_false (show ¬ V.str z = V.str (Str.ofString "") from fun q => he (by injection q))]
    refine iteT ?_
    refine lc_relLm (xs := (rowsOf z).map V.str) (fun H j y => ∃ row, (rowsOf z)[j]? = some row ∧ FndR K H row y) (fun R hR => ?_) (by rw [List.length_map]; omega) (fun F' H2 H3 j y h s => ?_) (fun j x H2 hj s2 Q' q => ?_) (fun D H2 ys s2 h2 hp => ?_)
    · refine ⟨_, h0, ⟨_, rfl⟩, z, "\n", rfl, rfl, (by rw [len_tl]; show ((tl (Str.ofString "\n")).length == 0) = false; rw [tl_nl]; rfl), by omega, fun p hp => hR p _ ?_ (Stp.new hp)⟩
      rw [upd_same, er]
    · obtain ⟨row, h3, h4⟩ := h
      exact ⟨row, h3, h4.st s⟩
    · rw [List.getElem?_map] at hj
      obtain ⟨u, hu, rfl⟩ := Option.map_eq_some_iff.mp hj
      have hum := List.mem_of_getElem? hu
      refine ⟨_, List.getElem?_set_self (by simpa [wipe] using h10), u, rfl, hl.2 u hum, hss u hum, fun hb H3 s3 => q _ _ ⟨u, hu, .inl ⟨hb, rfl⟩⟩ s3, fun hb H3 p s3 hp => q _ _ ⟨u, hu, .inr ⟨hb, p, rfl, hp⟩⟩ s3⟩
    · refine k H2 D ys s2 h2 (pr_of_ix _ ?_)
      rw [List.length_map] at hp
      exact hp
def tFoundE (K : PySem.W.Frag) : TE := fun σ H Q => ∃ z, tFound K z σ H Q
theorem found_weakE {K : PySem.W.Frag} (σ : L2.St) (H : Hp) (Q : VK) (h : tFoundE K σ H Q) : tIf (tTest (tOp rNe (tVar 6) (tC (.str "")))) (tLc (iList K (tM1 (fun x xs H Q => ∃ a b, x = .str a ∧ xs = [.str b] ∧ (b.length == 0) = false ∧ a.length + 2 ≤ sizeLine ∧ rNewStrs (Txt.split a b) H Q) (tVar 6) (tC (.str "\n")))) (gName 10) tYes (tCall (sp_law_read K) [] E0 (tCons (tVar 10) tNil)) [10]) (tLst tNil) σ H Q := by
  obtain ⟨z, hz⟩ := h
  exact found_weak z σ H Q hz
/-- the places of bad rows, as the law takes them -/
def badL (rows : List Str) : List Nat := (List.range rows.length).filter (badR rows)
theorem bad_first (rows : List Str) : firstBad rows = (badL rows).head? := by
  unfold firstBad badL
  rw [List.head?_filter]
theorem pr_ints2 {js : List Nat} {ys : List V} (h : Paired (fun (j : Nat) y => y = V.int (j : Int)) js ys) : ys = (js.map fun (j : Nat) => (j : Int)).map V.int := by
  induction h with
  | nil => rfl
  | cons h _ ih => rw [h, ih]; rfl
end Mx

namespace Mx
open PySem L2 TL LamX
set_option hygiene false in
local macro_rules | `(tactic| walk_at "rd") => `(tactic| try simp only [L2.start, List.map_cons, List.map_nil, List.length_cons, List.length_nil, Nat.reduceAdd, Nat.reduceSub, Nat.reduceLT, Nat.reduceLeDiff, List.replicate_succ, List.replicate_zero, List.append_nil, List.nil_append, List.cons_append, List.set_cons_zero, List.set_cons_succ, List.getElem?_cons_zero, List.getElem?_cons_succ,
  Option.some.injEq, List.cons.injEq, and_true, true_and, and_assoc, reduceCtorEq, L2.V.int.injEq, L2.V.ref.injEq, L2.V.bl.injEq, L2.V.str.injEq, L2.V.ty.injEq, L2.HO.ins.injEq, L2.HO.lst.injEq, L2.HO.tup.injEq, L2.HO.dK.injEq, exists_eq_left', exists_eq_left, exists_eq_right, exists_eq', exists_eq, exists_and_left, exists_and_right, reduceIte, Bool.false_eq_true, Bool.not_true, Bool.not_false,
  L2.tSeq, L2.tIfS, L2.tRet, L2.tRetN, L2.tNext, L2.tAsg, L2.gName, L2.tVar, L2.tC, L2.tCons, L2.tNil, L2.tCB, L2.tOp, L2.tUn, L2.tTup, L2.tLst, L2.tB, L2.tOr, L2.tAnd, L2.tNot, L2.tAndV, L2.tOrV, L2.tNotV, L2.tIf, L2.tTest, L2.tChain, L2.rI, L2.rI0, L2.rU, L2.tDrop, L2.tNever, L2.tCall, L2.tMeth, L2.tMake, L2.rGcd, L2.tFld, L2.sFld, L2.sFldAug, Mx.sFldA, Mx.sFldAugA, L2.rAdd, L2.rSub, L2.rEq, L2.rNe, L2.tDGet, L2.tDIn, L2.tDNotIn, L2.sDPut,
  Mx.isi_int_bool, Mx.isi_int_int, Mx.isi_int_tuple, Mx.isi_int_list, Mx.isi_int_str, Mx.scal_int, Mx.scal_str, Mx.scal_bl, Mx.ofString_inj, Mx.ofString_beq, Mx.lk_cons, Mx.pf_nil, Mx.pf_cons, Mx.sz1, Mx.sz2, List.lookup_nil, String.reduceEq, decide_true, decide_false, decide_eq_true_eq, Int.natAbs_natCast, L2.upd_same, L2.upd_upd, L2.cxOf, L2.gSub, L2.tPar, L2.gCons, L2.gNil, L2.tSl, L2.tPart, L2.tNoPart, L2.tM1, L2.rSlL])
set_option hygiene false in
local macro_rules | `(tactic| walk_at "rds") => `(tactic| try simp only [L2.start, List.map_cons, List.map_nil, List.length_cons, List.length_nil, Nat.reduceAdd, Nat.reduceSub, Nat.reduceLT, Nat.reduceLeDiff, List.replicate_succ, List.replicate_zero, List.append_nil, List.nil_append, List.cons_append, List.set_cons_zero, List.set_cons_succ, List.getElem?_cons_zero, List.getElem?_cons_succ,
  Option.some.injEq, List.cons.injEq, and_true, true_and, and_assoc, reduceCtorEq, L2.V.int.injEq, L2.V.ref.injEq, L2.V.bl.injEq, L2.V.str.injEq, L2.V.ty.injEq, L2.HO.ins.injEq, L2.HO.lst.injEq, L2.HO.tup.injEq, L2.HO.dK.injEq, exists_eq_left', exists_eq_left, exists_eq_right, exists_eq', exists_eq, exists_and_left, exists_and_right, reduceIte, Bool.false_eq_true, Bool.not_true, Bool.not_false,
  L2.tSeq, L2.tIfS, L2.tRet, L2.tRetN, L2.tNext, L2.tAsg, L2.gName, L2.tVar, L2.tC, L2.tCons, L2.tNil, L2.tCB, L2.tOp, L2.tUn, L2.tTup, L2.tLst, L2.tB, L2.tOr, L2.tAnd, L2.tNot, L2.tAndV, L2.tOrV, L2.tNotV, L2.tIf, L2.tTest, L2.tChain, L2.rI, L2.rI0, L2.rU, L2.tDrop, L2.tNever, L2.tCall, L2.tMeth, L2.tMake, L2.rGcd, L2.tFld, L2.sFld, L2.sFldAug, Mx.sFldA, Mx.sFldAugA, L2.rAdd, L2.rSub, L2.rEq, L2.rNe, L2.tDGet, L2.tDIn, L2.tDNotIn, L2.sDPut,
  Mx.isi_int_bool, Mx.isi_int_int, Mx.isi_int_tuple, Mx.isi_int_list, Mx.isi_int_str, Mx.scal_int, Mx.scal_str, Mx.scal_bl, Mx.ofString_inj, Mx.ofString_beq, Mx.lk_cons, Mx.pf_nil, Mx.pf_cons, Mx.sz1, Mx.sz2, List.lookup_nil, String.reduceEq, decide_true, decide_false, decide_eq_true_eq, Int.natAbs_natCast, L2.upd_same, L2.upd_upd, L2.cxOf, L2.gSub, L2.tPar, L2.gCons, L2.gNil, L2.tSl, L2.tPart, L2.tNoPart, L2.tM1, L2.rSlL, *])

section
variable {P : Program} {w : World} {K : PySem.W.Frag} {mg : Str → Option Value} {base : Heap}
abbrev N19 : List Str := ["_law_script", "_law_row", "_law_some", "_law_turn", "_law_text_here", "_law_change", "_law_one", "_law_found", "_law_bad", "_law_deed", "_law_line", "_law_k"]
abbrev qL : Str := ("law" ++ ".<locals>." : Str) ++ "<lambda>"
theorem app_up {σ : L2.St} {H : Hp} {Q : VK} {te : TE} {p : Addr} {ps : List Str} {w : Str} (hσ : σ[2]? = some (some (.ref p))) (h : H p = some (.lst (ps.map V.str))) (hl : ps.length ≤ 1000) (hte : ∀ R : VK, (∀ H', Stp [] H H' → R (.str w) H') → te σ H R)
    (k : ∀ x H', Stp [p] H H' → H' p = some (.lst ((ps ++ [w]).map V.str)) → Q x H') : tBM K "list" rAppend (tVar 2) (tCons te tNil) σ H Q := by
  have hsz : (200000 : Nat) ≤ sizeLine := by decide
  refine ⟨_, hσ, .inl ⟨rfl, _, .inl (.inl h)⟩, hte _ fun H' s => ?_⟩
  have h' := s.keep _ _ h (by simp)
  refine ⟨p, _, _, rfl, rfl, h', by rw [List.length_map]; omega, k _ _ ((s.trans (Stp.put h' fun xs z => nomatch z)).sub (by simp)) ?_⟩
  rw [upd_same, List.map_append]
  rfl
def rJn (K : PySem.W.Frag) : V → List V → Hp → VK → Prop := fun x xs H Q => ∃ a, x = V.str a ∧ ∃ p, xs = [V.ref p] ∧ ∃ ys : List Str, (SqL K H p (List.map V.str ys) ∨ SqT K H p (List.map V.str ys)) ∧ (List.map (fun x => x.length) ys).sum + ys.length * a.length ≤ 16777216 ∧ Q (V.str (Txt.join a ys)) H
theorem last_join {K : PySem.W.Frag} {σ : L2.St} {H : Hp} {Q : VK} (h : ∀ H', Stp [] H H' → Q (.str lastS) H') : tM1 (rJn K) (tC (.str "\n")) (tOp rCat (tOp rRep (tLst (tCons (tC (.str "hush 5")) tNil)) (tC (.int 300))) (tLst (tCons (tC (.str "x")) tNil))) σ H Q := by
  have hsz : (200000 : Nat) ≤ sizeLine := by decide
  refine ⟨⟨_, rfl⟩, by show 1 ≤ sizeLine; omega, fun q1 hq1 => ?_⟩
  refine ⟨q1, 300, [.str "hush 5"], rfl, rfl, upd_same, by decide, by decide, by show 1 * 300 ≤ sizeLine; omega, fun q2 hq2 => ⟨by show 1 ≤ sizeLine; omega, fun q3 hq3 => ?_⟩⟩
  generalize hg2 : upd (upd H q1 _) q2 _ = G2 at *
  have v2 : Stp [] H G2 := by rw [← hg2]; exact ((Stp.new hq1).trans (Stp.new hq2)).sub (by simp)
  have g2 : G2 q2 = some (.lst ((List.replicate 300 (Str.ofString "hush 5")).map V.str)) := by rw [← hg2, upd_same, List.map_replicate]; rfl
  generalize hg3 : upd G2 q3 _ = G3 at *
  have v3 : Stp [] G2 G3 := by rw [← hg3]; exact Stp.new hq3
  have g3 : G3 q3 = some (.lst ([Str.ofString "x"].map V.str)) := by rw [← hg3]; exact upd_same
  refine cat_up (v3.keep _ _ g2 (by simp)) g3 (by rw [List.length_replicate]; decide) fun q4 G4 hq4 v4 g4 => ?_
  refine ⟨_, rfl, q4, rfl, _, .inl (.inl (.inl g4)), ?_, h _ ((v2.trans (v3.trans v4)).sub (by simp))⟩
  have h6 : (Str.ofString "hush 5").length = 6 := by decide +kernel
  have h1 : (Str.ofString "x").length = 1 := by decide +kernel
  have hn : (Str.ofString "\n").length = 1 := by rw [len_tl, tl_nl]; rfl
  rw [List.map_append, List.sum_append, List.map_replicate, sum_rep, List.length_append, List.length_replicate, h6, hn]
  show 300 * 6 + ((Str.ofString "x").length + 0) + (300 + 1) * 1 ≤ 16777216
  rw [h1]
  decide
theorem lc_rngF {n : Nat} {ta : TA} {i : Nat} {tt : TT} {te : TE} {σ : L2.St} {H0 : Hp} {Q : VK} (p : Nat → Bool) (hta : ∀ R : List V → Hp → Prop, R [.int (n : Int)] H0 → ta σ H0 R) (hn : n ≤ 100000)
    (ht : ∀ j H, j < n → Stp [] H0 H → ∀ Q' : Bool → Hp → Prop, Q' (p j) H → tt ((wipe σ [i]).set i (some (.int (0 + (j : Int))))) H Q') (he : ∀ j H, j < n → ∀ Q' : VK, Q' (.int (j : Int)) H → te ((wipe σ [i]).set i (some (.int (0 + (j : Int))))) H Q')
    (k : ∀ D H', Stp [] H0 H' → H' D = some (.lst ((((List.range n).filter p).map fun (j : Nat) => (j : Int)).map V.int)) → Q (.ref D) H') : tLc (iRng1 ta) (gName i) tt te [i] σ H0 Q := by
  refine hta _ ⟨_, rfl, by omega, by omega, ?_⟩
  exact lc_rel (H9 := H0) (i := i) (tt := tt) (te := te) (σ := σ) (Q := Q) (walk_range (lo := 0) (n := n)) (F := []) (Z := fun _ => True) (R := fun _ j y => y = .int (j : Int)) (p := p) (YX := fun j x => x = .int (0 + (j : Int))) trivial (by simp) (fun _ _ _ _ _ _ _ => trivial) (fun _ _ _ => trivial) (fun _ _ _ _ _ h _ => h) hn (fun j H x H' _ h => h)
    (fun j x H hj hx _ s Q' q => by
      subst hx
      exact ht j H hj s Q' (q H trivial s Stp.refl))
    (fun j x H hj hx _ _ s Q' q => by
      subst hx
      exact he j H hj Q' (q _ H rfl trivial s Stp.refl))
    (fun D H' ys hD _ s hl hp => by
      rw [pr_ints2 hp] at hl
      exact k D H' s hl)
def tBadT (K : PySem.W.Frag) : TT := tOr (tTest (tOp (fun x y H Q => y = V.non ∧ Q (V.bl (decide (x = V.non))) H) (tOp (rIxL K) (tVar 7) (tVar 11)) (tC V.non))) (tTest (tOp (rI0 fun i j => V.bl (decide (j < i))) (tVar 11) (tC (V.int 299))))
def tLenS (K : PySem.W.Frag) (j : Nat) : TE := tCB (fun xs H Q => ∃ p, xs = [V.ref p] ∧ ∃ x, (SqL K H p x ∨ SqT K H p x) ∧ Q (V.int ↑x.length) H) (tCons (tVar j) tNil)
def tOne (K : PySem.W.Frag) (cw : Nat → Addr) (cM Pt : Addr) : TS :=
  tSeq (tAsg (tFoundE K) (gName 7)) (tSeq (tAsg (tLc (iRng1 (tCons (tLenS K 7) tNil)) (gName 11) (tBadT K) (tVar 11) [11]) (gName 8))
    (tIfS (tTest (tOp (rNeD K) (tVar 8) (tLst tNil)))
      (tIfS (tTest (tOp (rNeD K) (tLam [(Pt, qL)] (TWord K cw cM) fun E => tCallS (sp_readX K (cw 12)) (fun x => E) (tCons (tVar 6) tNil)) (tTup (tCons (tC (V.str (Str.ofString "text"))) (tCons (tOp (rIxL K) (tVar 8) (tC (V.int 0))) tNil))))) tNever tNext)
      (tIfS (tNot (tB (tCall (sp_eq K 3) [] E0 (tCons (tCallS (sp_readX K (cw 12)) (fun σ cls d H => False) (tCons (tVar 6) tNil)) (tCons (tVar 7) tNil))))) tNever tNext)))
def tTurn (K : PySem.W.Frag) (cw : Nat → Addr) (cM Pt : Addr) : TS :=
  tSeq (tAsg (tM1 (rJn K) (tC (V.str (Str.ofString "\n"))) (tLc (iList K (tCall (sp_law_steps K) [] E0 (tCons (tVar 1) (tCons (tC (V.int 10)) tNil)))) (gName 9) tYes (tCall (sp_law_text K) [] E0 (tCons (tVar 9) tNil)) [9])) (gName 4))
    (tSeq (tFor (iRng1 (tCons (tCall (sp_taken K) [] E0 (tCons (tVar 1) (tCons (tC (V.int 4)) tNil))) tNil)) (gName 5) (tAsg (tCall (sp_law_spoilt K) [] E0 (tCons (tVar 1) (tCons (tVar 4) tNil))) (gName 4)))
      (tFor (iList K (tLst (tCons (tVar 4) (tCons (tOp (rIxL K) (tVar 2) (tCall (sp_taken K) [] E0 (tCons (tVar 1) (tCons (tC (V.int 33)) tNil)))) tNil)))) (gName 6) (tOne K cw cM Pt)))
structure WFun (K : PySem.W.Frag) (mg : Str → Option Value) (cw : Nat → Addr) (cM : Addr) (g : Addr) (kV doc pm cdv ct oc : Value) (an od : Option Addr) (osl : Array (Option Value)) : Prop where
  mw : mg "_law_word" = some (.ref g)
  kw : PySem.W.keepIn K (.ref g) = true
  lw : K.lookup g = some ⟨oc, od, .func (PySem.W.fnOf "_law_word" "_law_word" (defArgs s_law_word) (defBody s_law_word) (defScope s_law_word) .none kV doc pm an cdv ct), osl⟩
  cd : PySem.W.codeIn K cdv "_law_word" = true
  bw : L2.Binds K (PySem.W.fnOf "_law_word" "_law_word" (defArgs s_law_word) (defBody s_law_word) (defScope s_law_word) .none kV doc pm an cdv ct) ["_law_work"] []
  G : WordG mg cw cM
  j12 : WordJ K cw cM 12
  f12 : FldE K (cw 12) "row"
structure G19 (P : Program) (w : World) (K : PySem.W.Frag) (mg : Str → Option Value) (base : Heap) (CT : Addr) : Prop where
  taken : OwnF P w K mg base "_law_taken" 1 ["_law_row", "_law_many"] (sp_taken K)
  alike : ∀ n, OwnF P w K mg base "_law_alike" (n + 1) ["_law_found", "_law_due"] (sp_eq K n)
  steps : OwnF P w K mg base "_law_steps" 3 ["_law_row", "_law_most"] (sp_law_steps K)
  text : OwnF P w K mg base "_law_text" 1 ["_law_deed"] (sp_law_text K)
  lread : OwnF P w K mg base "_law_read" 2 ["_law_line"] (sp_law_read K)
  spoilt : OwnF P w K mg base "_law_spoilt" 2 ["_law_row", "_law_text_here"] (sp_law_spoilt K)
  read : OwnX P w K mg base "read" 4 ["text"] (sp_readX K CT)
def sp_law (K : PySem.W.Frag) (Pt : Addr) : Sp := fun vs H Q _ => ∃ (a : Addr) (ns : List Int), vs = [.ref a] ∧ SqL K H a (ns.map V.int) ∧ ns.length ≤ 63 ∧ Tabs [(Pt, qL)] H ∧ ∀ H', Q (.bl true) H'
theorem sc_law : FnScope N19 ["_law_script"] (defScope s_law) := ⟨rfl, rfl, rfl, by decide +kernel, rfl, by decide +kernel, by decide +kernel⟩
theorem ext_stp {H H' : Hp} (s : Stp [] H H') : ExtN H H' := fun b o h _ => s.keep b o h (by simp)
theorem one_law {cw : Nat → Addr} {cM Pt : Addr} (j12 : WordJ K cw cM 12) (f12 : FldE K (cw 12) "row") {D : Ends} {a0 a1 a2 a3 a4 a5 v7 v8 : Option V} {z : Str} {H : Hp} (hz : z.length ≤ 90000) (hs : Sml z) (hT : Tabs [(Pt, qL)] H)
    (k : ∀ v7 v8 H', ExtN H H' → Tabs [(Pt, qL)] H' → D.nx [a0, a1, a2, a3, a4, a5, some (.str z), v7, v8, none, none, none] H') : tOne K cw cM Pt D [a0, a1, a2, a3, a4, a5, some (.str z), v7, v8, none, none, none] H := by
  have hsz : (200000 : Nat) ≤ sizeLine := by decide
  have hrl := rows_len hz
  unfold tOne
  walk_at "rd"
  refine ⟨z, rfl, by show 10 < 12; decide, hz, hs, fun H1 D1 ys s1 h1 hf => ?_⟩
  have hyl := hf.length
  refine lc_rngF (n := ys.length) (badR (rowsOf z)) (fun R hR => ⟨_, rfl, D1, rfl, _, .inl (.inl (.inl h1)), hR⟩) (by omega) (fun j H2 hj s2 Q' q => ?_) (fun j H2 hj Q' q => ?_) (fun D2 H2 s2 h2 => ?_)
  · obtain ⟨row, y, hr1, hy1, hry⟩ := pr_get hf j (by omega) hj
    have hgr : (rowsOf z).getD j Str.empty = row := by rw [List.getD_eq_getElem?_getD, hr1]; rfl
    have hb : badR (rowsOf z) j = (decide (300 ≤ j) || !okD (rdRow row)) := by unfold badR; rw [hgr]
    unfold tBadT
    walk_at "rd"
    refine ⟨_, rfl, _, rfl, D1, _, _, _, rfl, rfl, .inl (.inl (s2.keep _ _ h1 (by simp))), at_pos hy1, ?_⟩
    rcases hry with ⟨ho, rfl⟩ | ⟨ho, p, rfl, _⟩
    · rw [if_pos rfl]
      rw [hb, ho] at q
      rw [show (decide (300 ≤ j) || !false) = true from by simp] at q
      exact q
    · rw [if_neg (show ¬ V.ref p = V.non from fun q => nomatch q)]
      refine ⟨_, rfl, _, rfl, ?_⟩
      rw [hb, ho] at q
      have e : decide ((299 : Int) < 0 + (j : Int)) = (decide (300 ≤ j) || !true) := by
        rw [Bool.not_true, Bool.or_false, decide_eq_decide]
        omega
      rw [e]
      exact q
  · refine ⟨_, rfl, ?_⟩
    rw [Int.zero_add]
    exact q
  · refine ⟨by omega, fun p hp => ?_⟩
    generalize hh3 : upd H2 p _ = H3 at *
    have s3 : Stp [] H2 H3 := by rw [← hh3]; exact Stp.new hp
    have h3 : H3 p = some (.lst []) := by rw [← hh3]; exact upd_same
    rw [← hyl] at h2
    have h23 : H3 D2 = some (.lst (((badL (rowsOf z)).map fun (j : Nat) => (j : Int)).map V.int)) := s3.keep _ _ h2 (by simp)
    have s03 : Stp [] H H3 := (s1.trans (s2.trans s3)).sub (by simp)
    have hf3 : FndL K H3 (rowsOf z) ys := hf.st ((s2.trans s3).sub (G := []) (by simp))
    have h13 : H3 D1 = some (.lst ys) := s3.keep _ _ (s2.keep _ _ h1 (by simp)) (by simp)
    have hT3 := tabs_stp hT s03 (by simp)
    have hfb := bad_first (rowsOf z)
    refine ne_nilL h23 h3 (ints_refl (n := 0) _) (by decide) ⟨_, rfl, ?_⟩
    cases hbl : badL (rowsOf z) with
    | nil =>
      rw [hbl] at hfb
      refine iteF ?_
      refine ⟨_, rfl, z, rfl, hz, fun _ H4 D4 ps s4 hD4 h4 hd4 => ?_, fun i hi => by rw [hfb] at hi; cases hi⟩
      have hnb : ∀ row ∈ rowsOf z, okD (rdRow row) = true := fun row hr => by
        obtain ⟨j, hj, rfl⟩ := List.mem_iff_getElem.mp hr
        have hx : ¬ badR (rowsOf z) j = true := fun hx => by
          have : j ∈ badL (rowsOf z) := List.mem_filter.mpr ⟨List.mem_range.mpr hj, hx⟩
          rw [hbl] at this
          cases this
        unfold badR at hx
        rw [List.getD_eq_getElem?_getD, List.getElem?_eq_getElem hj] at hx
        simp only [Option.getD_some, Bool.or_eq_true, not_or, Bool.not_eq_true', Bool.not_eq_false] at hx
        exact hx.2
      obtain ⟨qs, rfl, hq⟩ : ∃ qs : List Addr, ys = qs.map V.ref ∧ DDs K H3 ((rowsOf z).map rdRow) qs := by
        have key : ∀ {rows : List Str} {us : List V}, FndL K H3 rows us → (∀ row ∈ rows, okD (rdRow row) = true) → ∃ qs : List Addr, us = qs.map V.ref ∧ DDs K H3 (rows.map rdRow) qs := by
          intro rows us hp
          induction hp with
          | nil => exact fun _ => ⟨[], rfl, .nil⟩
          | cons h _ ih =>
            intro ha
            obtain ⟨qs, e1, e2⟩ := ih fun row hr => ha row (by simp [hr])
            rcases h with ⟨h, _⟩ | ⟨_, q, e, hq⟩
            · rw [ha _ (by simp)] at h
              cases h
            · exact ⟨q :: qs, by rw [e, e1]; rfl, .cons hq e2⟩
        exact key hf3 hnb
      have hql := hq.length
      rw [List.length_map] at hql
      have hdl := hd4.length
      rw [List.length_map] at hdl
      refine ⟨_, _, rfl, eq_lst h4 (s4.keep _ _ h13 (by simp)) hd4 (hq.st s4) (fun d hd => ?_) (by omega), fun H5 s5 => ⟨_, rfl, iteF ?_⟩⟩
      · obtain ⟨row, hr, rfl⟩ := List.mem_map.mp hd
        exact hnb row hr
      · have s05 : Stp [] H H5 := (s03.trans (s4.trans s5)).sub (by simp)
        exact k _ _ _ (ext_stp s05) (tabs_stp hT s05 (by simp))
    | cons i rest =>
      rw [hbl] at hfb h23
      refine iteT ⟨hT3, fun H4 e4 T4 => ?_⟩
      refine ⟨_, rfl, z, rfl, hz, fun hn => (by rw [hfb] at hn; cases hn), fun i' hi' H5 d s5 hd => ?_⟩
      rw [hfb] at hi'
      cases hi'
      refine ⟨12, by decide, rfl, j12, .inr ⟨by decide, d, (i : Int), rfl, f12, hd, fun p6 H6 s6 h6 => ?_⟩⟩
      have h2_6 := s6.keep _ _ (s5.keep _ _ (e4 _ _ h23 fun _ z => nomatch z) (by simp)) (by simp)
      refine ixL (.inl (.inl h2_6)) (x := .int (i : Int)) at0 fun p7 hp7 => ?_
      generalize hh7 : upd H6 p7 _ = H7 at *
      have s7 : Stp [] H6 H7 := by rw [← hh7]; exact Stp.new hp7
      have h7 : H7 p7 = some (.tup [.str "text", .int (i : Int)]) := by rw [← hh7]; exact upd_same
      have h67 := s7.keep _ _ h6 (by simp)
      refine ne_T (n := 1) (.inr ⟨p6, p7, _, _, rfl, rfl, .inl ⟨.inl h67, .inl h7⟩, by show 2 ≤ 100000; decide, .cons (.inr (.inl ⟨"text", by decide +kernel, rfl, rfl⟩)) (.cons (.inl ⟨(i : Int), rfl, rfl⟩) .nil)⟩) (by decide) ⟨_, rfl, iteF ?_⟩
      have s47 : Stp [] H4 H7 := (s5.trans (s6.trans s7)).sub (by simp)
      exact k _ _ _ ((ext_stp s03).trans (e4.trans (ext_stp s47))) (tabs_stp T4 s47 (by simp))
theorem lc_lstYg {K : PySem.W.Frag} {i : Nat} {te : TE} {σ : L2.St} {H0 : Hp} {Q : VK} {tl : TE} (Gd : Hp → List V → List V → Prop) (htl : ∀ R : VK, (∀ p H' xs ys, H' p = some (.lst xs) → Gd H' xs ys → R (.ref p) H') → tl σ H0 R)
    (he : ∀ H1 xs ys, Gd H1 xs ys → ys.length = xs.length ∧ xs.length ≤ 100000 ∧ ∀ (j : Nat) (x y : V) (H : Hp), xs[j]? = some x → ys[j]? = some y → Stp [] H1 H → ∀ Q' : VK, (∀ H', Stp [] H H' → Q' y H') → te ((wipe σ [i]).set i (some x)) H Q')
    (k : ∀ H1 xs ys D H', Gd H1 xs ys → H1 D = none → Stp [] H1 H' → H' D = some (.lst ys) → Q (.ref D) H') : tLc (iList K tl) (gName i) tYes te [i] σ H0 Q := htl _ fun p H' xs ys hp hg =>
  ⟨p, rfl, ⟨_, .inl (.inl hp)⟩, lc_lstY (H9 := H0) (Q := Q) hp (he H' xs ys hg).1 (he H' xs ys hg).2.1 (he H' xs ys hg).2.2 fun D H2 hD s hd => k H' xs ys D H2 hg hD s hd⟩
def lb : Nat → Nat
  | 0 => 9670
  | i + 1 => 2 * lb i + 10
theorem turn_law {cw : Nat → Addr} {cM Pt : Addr} (j12 : WordJ K cw cM 12) (f12 : FldE K (cw 12) "row") {D : Ends} {r sc pS : Addr} {ns : List Int} {v3 v4 v5 v6 v7 v8 : Option V} {H : Hp} (iv : Iv K [(Pt, qL)] r sc ns pS someL H)
    (k : ∀ v4 v5 v6 v7 v8 H', Iv K [(Pt, qL)] r sc ns pS someL H' → D.nx [some (.ref sc), some (.ref r), some (.ref pS), v3, v4, v5, v6, v7, v8, none, none, none] H') :
    tTurn K cw cM Pt D [some (.ref sc), some (.ref r), some (.ref pS), v3, v4, v5, v6, v7, v8, none, none, none] H := by
  have hsz : (200000 : Nat) ≤ sizeLine := by decide
  have hnl : (Str.ofString "\n").length = 1 := by rw [len_tl, tl_nl]; rfl
  unfold tTurn
  walk_at "rd"
  refine lc_lstYg (fun H1 xs ys => ∃ (ds : List DD) (ps : List Addr), xs = ps.map V.ref ∧ ys = (ds.map rowTxt).map V.str ∧ Iv K [(Pt, qL)] r sc ns pS someL H1 ∧ ps.length ≤ 10 ∧ DDs K H1 ds ps ∧ ∀ d ∈ ds, okD d = true) (fun R hR => ?_) (fun H1 xs ys hg => ?_) (fun H1 xs ys D1 H2 hg hD s2 h2 => ?_)
  · exact ⟨_, rfl, r, sc, ns, 10, rfl, by decide, by decide, iv.row, fun H1 F ds ps hR1 s1 hF e1 hl1 hd1 hk => hR F H1 _ _ e1 ⟨ds, ps, rfl, rfl, iv.str s1 hR1, by omega, hd1, hk⟩⟩
  · obtain ⟨ds, ps, rfl, rfl, iv1, hl, hd, hk⟩ := hg
    have hlen := hd.length
    refine ⟨by simp [hlen], by rw [List.length_map]; omega, fun j x y H5 hj hy s5 Q' q => ?_⟩
    rw [List.getElem?_map] at hj
    obtain ⟨t, ht, rfl⟩ := Option.map_eq_some_iff.mp hj
    obtain ⟨hjl, _⟩ := List.getElem?_eq_some_iff.mp ht
    obtain ⟨d, t', h1, h2, h3⟩ := pr_get hd j (by omega) hjl
    rw [ht] at h2
    cases h2
    rw [List.map_map, List.getElem?_map, h1] at hy
    cases hy
    exact ⟨_, rfl, t, d, rfl, h3.st s5, Good.of (hk d (List.mem_of_getElem? h1)), q⟩
  · obtain ⟨ds, ps, rfl, rfl, iv1, hl, hd, hk⟩ := hg
    have hlen := hd.length
    have gd : ∀ d ∈ ds, Good d := fun d hd => Good.of (hk d hd)
    have a9 : ∀ p ∈ ds.map rowTxt, p.length ≤ 966 := by
      intro p hp
      obtain ⟨d, hd, rfl⟩ := List.mem_map.mp hp
      exact (row_free (gd d hd)).2.2.1
    have hsum := sum_len a9
    rw [List.length_map] at hsum
    have hall : (allTxt ds).length ≤ 9670 := by
      refine Nat.le_trans (len_join (k := 966) (by rw [tl_nl]; decide) a9) ?_
      rw [List.length_map]
      omega
    have hsml : Sml (allTxt ds) := all_join (by rw [tl_nl]; decide) fun p hp => by
      obtain ⟨d, hd, rfl⟩ := List.mem_map.mp hp
      exact row_small (gd d hd).mem
    refine ⟨_, rfl, D1, rfl, ds.map rowTxt, .inl (.inl (.inl h2)), by rw [hnl, List.length_map]; omega, ?_⟩
    have ez : Txt.join (Str.ofString "\n") (ds.map rowTxt) = allTxt ds := rfl
    rw [ez]
    have iv2 := iv1.st0 s2
    refine ⟨_, rfl, r, sc, ns, 4, rfl, iv2.row, by decide, fun c H3 c0 c1 hR3 s3 => ⟨c, rfl, by omega, by omega, ?_⟩⟩
    have iv3 := iv2.str s3 hR3
    refine for_range (lo := 0) (n := c.toNat) (fun i σ H' => ∃ (z : Str) (v5 : Option V), σ = [some (.ref sc), some (.ref r), some (.ref pS), v3, some (.str z), v5, v6, v7, v8, none, none, none] ∧ Iv K [(Pt, qL)] r sc ns pS someL H' ∧ Sml z ∧ z.length ≤ lb i) ⟨_, _, rfl, iv3, hsml, hall⟩ (fun i σ H4 hi h => ?_) (fun σ H4 h => ?_)
    · obtain ⟨z, v5, rfl, iv4, hs4, hl4⟩ := h
      have hlb : lb i ≤ 38710 := by
        rcases (show i = 0 ∨ i = 1 ∨ i = 2 by omega) with rfl | rfl | rfl <;> decide
      show tAsg _ _ _ _ _
      walk_at "rd"
      exact ⟨r, sc, ns, z, rfl, iv4.row, by omega, hs4, fun z' H5 hl5 hs5 hR5 s5 => ⟨z', rfl, iv4.str s5 hR5, hs5, by show z'.length ≤ 2 * lb i + 10; omega⟩⟩
    · obtain ⟨z, v5, rfl, iv4, hs4, hl4⟩ := h
      have hlb : lb c.toNat ≤ 77430 := by
        rcases (show c.toNat = 0 ∨ c.toNat = 1 ∨ c.toNat = 2 ∨ c.toNat = 3 by omega) with h | h | h | h <;> rw [h] <;> decide
      dsimp only
      refine ⟨_, rfl, _, rfl, _, rfl, r, sc, ns, 33, rfl, iv4.row, by decide, fun c2 H5 c20 c21 hR5 s5 => ?_⟩
      have iv5 := iv4.str s5 hR5
      obtain ⟨w2, hat, hw1, hw2⟩ := some_at c20 c21
      refine ixL (.inl (.inl iv5.so)) hat ⟨by show 2 ≤ sizeLine; omega, fun pL hpL => ?_⟩
      generalize hh6 : upd H5 pL _ = H6 at *
      have s6 : Stp [] H5 H6 := by rw [← hh6]; exact Stp.new hpL
      have e6 : H6 pL = some (.lst [.str z, .str w2]) := by rw [← hh6]; exact upd_same
      have iv6 := iv5.st0 s6
      refine ⟨pL, rfl, ⟨_, .inl (.inl e6)⟩, for_list (K := K) (a := pL) (xs := [.str z, .str w2]) (fun i σ H' => ∃ v6 v7 v8, σ = [some (.ref sc), some (.ref r), some (.ref pS), v3, some (.str z), v5, v6, v7, v8, none, none, none] ∧ Iv K [(Pt, qL)] r sc ns pS someL H' ∧ H' pL = some (.lst [.str z, .str w2])) ⟨_, _, _, rfl, iv6, e6⟩ (fun i σ H7 _ h => ?_) (fun i x σ H7 hi h => ?_) (fun σ H7 h => ?_)⟩
      · obtain ⟨_, _, _, _, _, h⟩ := h
        exact .inl (.inl h)
      · obtain ⟨v6, v7, v8, rfl, iv7, e7⟩ := h
        obtain ⟨zz, rfl, hz1, hz2⟩ : ∃ zz : Str, x = .str zz ∧ Sml zz ∧ zz.length ≤ 90000 := by
          match i, hi with
          | 0, hi => cases hi; exact ⟨z, rfl, hs4, by omega⟩
          | 1, hi => cases hi; exact ⟨w2, rfl, hw1, by omega⟩
        refine one_law j12 f12 hz2 hz1 iv7.tb fun v7 v8 H8 e8 t8 => ⟨_, _, _, rfl, iv7.ext e8 t8, e8 _ _ e7 fun _ z => nomatch z⟩
      · obtain ⟨v6, v7, v8, rfl, iv7, _⟩ := h
        exact k _ _ _ _ _ H7 iv7
theorem law_body {cw : Nat → Addr} {cM g c Pt : Addr} {kV doc pm cdv ct oc : Value} {an od : Option Addr} {osl : Array (Option Value)} {f : Addr} (B : Blt mg) (G : G19 P w K mg base (cw 12)) (W : WFun K mg cw cM g kV doc pm cdv ct oc an od osl) (TB : TabB base mg c Pt)
    (A : Around) (outer : List Env) (s : Shared) (H : Hp) (vs : List V) (Q : VK) (E : XK) (hr : Room 6 (A.deeper (PyProof.Rows.envOfC "law" (defScope s_law) s.heap.objs.size f (.ref c)))) (h : sp_law K Pt vs H Q E) :
    ∃ t, PSs (cxOf CX0 P w K mg base N19 "law" (defScope s_law) f (.ref c) A outer s H E).nox (defBody s_law) t ∧ t { nx := fun _ H' => Q .non H', rt := Q } (L2.start N19 vs) H := by
    obtain ⟨sc, ns, rfl, hS, hlen, hT, k⟩ := h
    have nd := sc_law.nd
    have hu := hu_of hr
    have hu64 : (A.deeper (PyProof.Rows.envOfC "law" (defScope s_law) s.heap.objs.size f (.ref c))).units + 64 < cLine := by
      have := hr.un
      omega
    have r1 := hr.mono (show 1 ≤ 6 by decide)
    have r2 := hr.mono (show 2 ≤ 6 by decide)
    have r3 := hr.mono (show 3 ≤ 6 by decide)
    have r4 := hr.mono (show 4 ≤ 6 by decide)
    refine ⟨_, (pss_cons (ps_set (i := 1) nd rfl (.inl rfl) (pe_lst (pa_cons (pv 0) (pa_cons pe_int (pa_cons pe_int pa_nil)))))
      (pss_cons (ps_set (i := 2) nd rfl (.inl rfl) (pe_lst (pa_cons pe_str (pa_cons pe_str (pa_cons pe_str (pa_cons pe_str (pa_cons pe_str (pa_cons pe_str (pa_cons pe_str (pa_cons pe_str (pa_cons pe_str (pa_cons pe_str (pa_cons pe_str pa_nil)))))))))))))
      (pss_cons (ps_expr (pe_bm PySem.F.plainAttrs_list PySem.F.slot_list_append PySem.F.type_list_append mt_append (pv 2) (pa_cons pe_str pa_nil)))
      (pss_cons (ps_set (i := 2) nd rfl (.inl rfl) (pe_op op_cat (pv 2) (pe_lst (pa_cons pe_str (pa_cons pe_str (pa_cons pe_str (pa_cons pe_str (pa_cons pe_str pa_nil))))))))
      (pss_cons (ps_expr (pe_bm PySem.F.plainAttrs_list PySem.F.slot_list_append PySem.F.type_list_append mt_append (pv 2) (pa_cons pe_str pa_nil)))
      (pss_cons (ps_set (i := 2) nd rfl (.inl rfl) (pe_op op_cat (pv 2) (pe_lst (pa_cons pe_str (pa_cons pe_str (pa_cons pe_str (pa_cons pe_str (pa_cons pe_str pa_nil))))))))
      (pss_cons (ps_expr (pe_bm PySem.F.plainAttrs_list PySem.F.slot_list_append PySem.F.type_list_append mt_append (pv 2) (pa_cons pe_str pa_nil)))
      (pss_cons (ps_set (i := 2) nd rfl (.inl rfl) (pe_op op_cat (pv 2) (pe_lst (pa_cons pe_str (pa_cons pe_str (pa_cons pe_str (pa_cons pe_str (pa_cons (pe_op op_add_str pe_str (pe_weak (pe_join pe_str (pe_op op_rep (pe_lst (pa_cons pe_str pa_nil)) pe_int)) (repj_weak (K := K) (y := ",") (w := "1") (n := 32) (by decide) (by decide +kernel) (by decide +kernel)))) pa_nil))))))))
      (pss_cons (ps_set (i := 2) nd rfl (.inl rfl) (pe_op op_cat (pv 2) (pe_lst (pa_cons (pe_op op_add_str pe_str (pe_weak (pe_join pe_str (pe_op op_rep (pe_lst (pa_cons pe_str pa_nil)) pe_int)) (repj_weak (K := K) (y := ",") (w := "1") (n := 33) (by decide) (by decide +kernel) (by decide +kernel)))) (pa_cons (pe_weak (pe_join pe_str (pe_op op_rep (pe_lst (pa_cons pe_str pa_nil)) pe_int)) (repj_weak (K := K) (y := "\n") (w := "beat") (n := 300) (by decide) (by decide +kernel) (by decide +kernel))) (pa_cons (pe_weak (pe_join pe_str (pe_op op_rep (pe_lst (pa_cons pe_str pa_nil)) pe_int)) (repj_weak (K := K) (y := "\n") (w := "beat") (n := 301) (by decide) (by decide +kernel) (by decide +kernel))) pa_nil))))))
      (pss_cons (ps_expr (pe_bm PySem.F.plainAttrs_list PySem.F.slot_list_append PySem.F.type_list_append mt_append (pv 2) (pa_cons (pe_join pe_str (pe_op op_cat (pe_op op_rep (pe_lst (pa_cons pe_str pa_nil)) pe_int) (pe_lst (pa_cons pe_str pa_nil)))) pa_nil)))
      (pss_cons (ps_for PassesOwn.never rfl (pi_range1 (by rfl) B.range (pa_cons pe_int pa_nil)) (pg_name (i := 3) nd rfl (.inl rfl)) (pss_cons (ps_set (i := 4) nd rfl (.inl rfl) (pe_join pe_str (pe_lc (own := [("_law_deed", 9)]) (te := tCall (sp_law_text K) [] E0 (tCons (tVar 9) tNil)) rfl nd (pi_list (p_call G.steps r3 (pa_cons (pv 1) (pa_cons pe_int pa_nil)))) (blkOk_by (N := N19) (sc := defScope s_law) (by decide +kernel)) (fun _ _ _ _ _ => pg_name (i := 9) nd rfl (.inl rfl)) (fun _ _ _ _ _ => pts_nil) (fun _ _ _ _ _ => p_call G.text r1 (pa_cons (pv 9) pa_nil)))))
      (pss_cons (ps_for PassesOwn.never rfl (pi_range1 (by rfl) B.range (pa_cons (p_call G.taken r1 (pa_cons (pv 1) (pa_cons pe_int pa_nil))) pa_nil)) (pg_name (i := 5) nd rfl (.inl rfl)) (pss_one (ps_set (i := 4) nd rfl (.inl rfl) (p_call G.spoilt r2 (pa_cons (pv 1) (pa_cons (pv 4) pa_nil))))))
      (pss_one (ps_for PassesOwn.never rfl (pi_list (pe_lst (pa_cons (pv 4) (pa_cons (pe_ix ix_list (pv 2) (p_call G.taken r1 (pa_cons (pv 1) (pa_cons pe_int pa_nil))) (fun _ _ => rfl)) pa_nil)))) (pg_name (i := 6) nd rfl (.inr rfl)) (pss_cons (ps_set (i := 7) nd rfl (.inr rfl) (pe_weak (pe_ifExp (pt_cmpR op_ne (pv 6) pe_str (nomark _)) (pe_lc (own := [("_law_line", 10)]) (te := tCall (sp_law_read K) [] E0 (tCons (tVar 10) tNil)) rfl nd (pi_list (pe_split (pv 6) pe_str)) (blkOk_by (N := N19) (sc := defScope s_law) (by decide +kernel)) (fun _ _ _ _ _ => pg_name (i := 10) nd rfl (.inl rfl)) (fun _ _ _ _ _ => pts_nil) (fun _ _ _ _ _ => p_call G.lread r2 (pa_cons (pv 10) pa_nil))) (pe_lst pa_nil)) (found_weakE (K := K))))
      (pss_cons (ps_setLc (i := 8) (own := [("_law_k", 11)]) (te := tVar 11) (tt := tOr (tTest (tOp (fun x y H Q => y = .non ∧ Q (.bl (decide (x = .non))) H) (tOp (rIxL K) (tVar 7) (tVar 11)) (tC .non))) (tTest (tOp (rI0 fun i j => V.bl (decide (j < i))) (tVar 11) (tC (.int 299))))) rfl nd rfl rfl (sw_true rfl rfl rfl (by decide +kernel)) (pi_range1 (by rfl) B.range (pa_cons (pe_callB call_len_seq (by rfl) B.len PySem.boot_len (pa_cons (pv 7) pa_nil)) pa_nil)) (blkOk_by (N := N19) (sc := defScope s_law) (by decide +kernel)) (fun _ _ _ _ _ => pg_name (i := 11) nd rfl (.inl rfl)) (fun _ _ _ _ _ => pts_one (PW.pt (pw_or (pt_cmpR op_isN (pe_ix ix_list (pv 7) (pv 11) (fun _ _ => rfl)) pe_non (nomark _)) (pw_or1 (pt_cmpR op_gt (pv 11) pe_int (nomark _)))))) (fun _ _ _ _ _ => pv 11))
      (pss_one (ps_if (pt_cmpR (op_neD hu64) (pv 8) (pe_lst pa_nil) (nomark _)) (pss_one (ps_if (pt_cmpR (op_neD hu64) (pe_lamW (T := [(Pt, qL)]) (TT := TWord K cw cM) (N := NWd) (a := "_law_work") (k := 4) (t := fun E => tCallS (sp_readX K (cw 12)) (fun _ => E) (tCons (tVar 6) tNil)) rfl W.mw W.kw W.lw W.cd W.bw sc_law_word rfl (.inl rfl) (word_gives B W.G) TB rfl List.mem_cons_self (fun p hp _ => by rw [List.mem_singleton.mp hp]; rfl) hr (lamS_by (sc := defScope s_law) (by decide +kernel)) rfl (fun _ _ _ _ _ => rfl) (fun E A outer s H f c hr2 => p_callX G.read (takes_of rfl rfl rfl rfl) hr2 (pa_cons (pv 6) pa_nil))) (pe_tup (pa_cons pe_str (pa_cons (pe_ix ix_list (pv 8) pe_int (fun _ _ => rfl)) pa_nil))) (nomark _)) pss_never pss_nil)) (pss_one (ps_if (pt_not (pt_val (p_call (G.alike 3) r4 (pa_cons (p_callX G.read (L2.takes0) r4 (pa_cons (pv 6) pa_nil)) (pa_cons (pv 7) pa_nil))))) pss_never pss_nil)))))))))))
      (pss_one (ps_ret pe_bl))))))))))))), ?_⟩
    have hsz : (200000 : Nat) ≤ sizeLine := by decide
    walk_at "rd"
    refine ⟨by omega, fun r hr0 => ⟨by omega, fun p1 hp1 => ?_⟩⟩
    have hsr : sc ≠ r ∨ ∀ H', SqL K H' sc (ns.map V.int) := by
      rcases hS with (q | ⟨o, q⟩) | q
      · exact .inl (ne_of_none q hr0)
      · exact .inl (ne_of_none q hr0)
      · exact .inr fun H' => .inr q
    generalize hh1 : upd H r _ = H1 at *
    have s1 : Stp [] H H1 := by rw [← hh1]; exact Stp.new hr0
    have hR1 : RowAt K H1 r sc ns := ⟨0, 0, by decide, by decide, by decide, by rw [← hh1]; exact upd_same, seq_st hS s1 (by simp), hsr⟩
    have n1 := row_ne hR1 hp1
    have f1 : H p1 = none := s1.free hp1 (by simp)
    generalize hh2 : upd H1 p1 _ = H2 at *
    have t2 : Stp [] H1 H2 := by rw [← hh2]; exact Stp.new hp1
    have e2 : H2 p1 = some (.lst ((litL.take 11).map V.str)) := by rw [← hh2]; exact upd_same
    have stepA : ∀ {Ha Hb : Hp} {p : Addr}, RowAt K Ha r sc ns → Stp [] H1 Ha → p ≠ r → H1 p = none → Stp [p] Ha Hb → RowAt K Hb r sc ns ∧ Stp [] H1 Hb := fun {Ha Hb p} hR u hn hp t => by
      have v : Stp [] H1 Hb := (u.trans t).subN fun b hb => .inr (by simp at hb; rw [hb]; exact hp)
      exact ⟨row_mv hR1 hR t (by simpa using hn.symm) (v.sub (by simp)), v⟩
    have hR2 := hR1.st0 t2
    refine app_up (ps := litL.take 11) rfl e2 (by decide) (fun R h => h _ Stp.refl) fun _ H3 t3 e3 => ⟨by omega, fun p2 hp2 => ?_⟩
    obtain ⟨hR3, u3⟩ := stepA hR2 t2 n1 hp1 t3
    generalize hh4 : upd H3 p2 _ = H4 at *
    have t4 : Stp [] H3 H4 := by rw [← hh4]; exact Stp.new hp2
    have e4 : H4 p2 = some (.lst (((litL.take 17).drop 12).map V.str)) := by rw [← hh4]; exact upd_same
    refine cat_up (as := litL.take 12) (t4.keep _ _ e3 (by simp)) e4 (by decide) fun p3 H5 hp3 t5 e5 => ?_
    have u4 : Stp [] H1 H4 := (u3.trans t4).sub (by simp)
    have u5 : Stp [] H1 H5 := (u4.trans t5).sub (by simp)
    have hR5 := hR3.st0 ((t4.trans t5).sub (G := []) (by simp))
    have n3 : p3 ≠ r := row_ne (hR3.st0 t4) hp3
    have f3 : H1 p3 = none := u4.free hp3 (by simp)
    refine app_up (ps := litL.take 17) rfl e5 (by decide) (fun R h => h _ Stp.refl) fun _ H6 t6 e6 => ⟨by omega, fun p4 hp4 => ?_⟩
    obtain ⟨hR6, u6⟩ := stepA hR5 u5 n3 f3 t6
    generalize hh7 : upd H6 p4 _ = H7 at *
    have t7 : Stp [] H6 H7 := by rw [← hh7]; exact Stp.new hp4
    have e7 : H7 p4 = some (.lst (((litL.take 23).drop 18).map V.str)) := by rw [← hh7]; exact upd_same
    refine cat_up (as := litL.take 18) (t7.keep _ _ e6 (by simp)) e7 (by decide) fun p5 H8 hp5 t8 e8 => ?_
    have u7 : Stp [] H1 H7 := (u6.trans t7).sub (by simp)
    have u8 : Stp [] H1 H8 := (u7.trans t8).sub (by simp)
    have hR8 := hR6.st0 ((t7.trans t8).sub (G := []) (by simp))
    have n5 : p5 ≠ r := row_ne (hR6.st0 t7) hp5
    have f5 : H1 p5 = none := u7.free hp5 (by simp)
    have hpl : (Str.ofString "parcel 0 0 ").length = 11 := by decide +kernel
    have c1 : (tl (Str.ofString ",")).length ≤ 1 := by rw [tl_com]; decide
    have pl32 := (rep_ok (y := ",") (w := "1") (n := 32) s_com c1 (s_lit (by decide)) (by decide +kernel) (by decide)).2
    have pl33 := (rep_ok (y := ",") (w := "1") (n := 33) s_com c1 (s_lit (by decide)) (by decide +kernel) (by decide)).2
    unfold repS at pl32 pl33
    refine app_up (ps := litL.take 23) rfl e8 (by decide) (fun R h => h _ Stp.refl) fun _ H9 t9 e9 H10 t10 => ⟨_, rfl, by omega, by omega, fun p6 hp6 => ?_⟩
    obtain ⟨hR9, u9⟩ := stepA hR8 u8 n5 f5 t9
    generalize hh11 : upd H10 p6 _ = H11 at *
    have t11 : Stp [] H10 H11 := by rw [← hh11]; exact Stp.new hp6
    have e11 : H11 p6 = some (.lst (((someL.take 29).drop 24).map V.str)) := by rw [← hh11]; exact upd_same
    refine cat_up (as := litL.take 24) (t11.keep _ _ (t10.keep _ _ e9 (by simp)) (by simp)) e11 (by decide) fun p7 H12 hp7 t12 e12 => ?_
    have u12 : Stp [] H1 H12 := (u9.trans (t10.trans (t11.trans t12))).sub (by simp)
    have hR12 := hR9.st0 ((t10.trans (t11.trans t12)).sub (G := []) (by simp))
    refine fun H13 t13 => ⟨_, rfl, by omega, fun H14 t14 H15 t15 => ⟨by omega, fun p8 hp8 => ?_⟩⟩
    generalize hh16 : upd H15 p8 _ = H16 at *
    have t16 : Stp [] H15 H16 := by rw [← hh16]; exact Stp.new hp8
    have e16 : H16 p8 = some (.lst (((someL.take 32).drop 29).map V.str)) := by rw [← hh16]; exact upd_same
    have u16 : Stp [] H12 H16 := (t13.trans (t14.trans (t15.trans t16))).sub (by simp)
    refine cat_up (as := someL.take 29) (u16.keep _ _ e12 (by simp)) e16 (by decide) fun p9 H17 hp9 t17 e17 => ?_
    have u17 : Stp [] H1 H17 := (u12.trans (u16.trans t17)).sub (by simp)
    have hR16 := hR12.st0 u16
    have hR17 := hR16.st0 t17
    have n9 : p9 ≠ r := row_ne hR16 hp9
    have f9 : H1 p9 = none := ((u12.trans u16).sub (G := []) (by simp)).free hp9 (by simp)
    refine app_up (ps := someL.take 32) (w := lastS) rfl e17 (by decide) (fun R h => last_join h) fun _ H18 t18 e18 => ?_
    obtain ⟨hR18, u18⟩ := stepA hR17 u17 n9 f9 t18
    have e18' : H18 p9 = some (.lst (someL.map V.str)) := e18
    have s18 : Stp [] H H18 := (s1.trans u18).sub (by simp)
    have iv18 : Iv K [(Pt, qL)] r sc ns p9 someL H18 := ⟨hR18, e18', n9, tabs_stp hT s18 (by simp)⟩
    clear hR18 e18 e18' u18 stepA
    refine ⟨5, rfl, by decide, by decide, for_range (n := 5) (fun i σ H' => ∃ v3 v4 v5 v6 v7 v8, σ = [some (.ref sc), some (.ref r), some (.ref p9), v3, v4, v5, v6, v7, v8, none, none, none] ∧ Iv K [(Pt, qL)] r sc ns p9 someL H') ⟨_, _, _, _, _, _, rfl, iv18⟩ (fun i σ H' hi h => ?_) (fun σ H' h => ?_)⟩
    · obtain ⟨v3, v4, v5, v6, v7, v8, rfl, iv⟩ := h
      exact turn_law W.j12 W.f12 iv fun v4 v5 v6 v7 v8 H2 iv2 => ⟨_, _, _, _, _, _, rfl, iv2⟩
    · obtain ⟨v3, v4, v5, v6, v7, v8, rfl, iv⟩ := h
      exact k _
end
end Mx

namespace Mx
open PySem L2 TL
theorem parts_ok2 {K : PySem.W.Frag} {w : World} {mg : Str → Option Value} {aP : Addr} {es : Array DictEntry} {n : Nat} (hm : mg "PARTS" = some (.ref aP)) (hl : K.lookup aP = some ⟨.type "dict", none, .dict es n, #[]⟩) (hk : PySem.W.KeysLit w.params es.toList) (hs : (aP == sysModules) = false)
    (hkeys : ∃ t1 t2 t3 t4 t5 t6 t7 : Tok, es.toList.map DictEntry.key = [.str "add" t1, .str "parcel" t2, .str "end" t3, .str "lead" t4, .str "hush" t5, .str "wake" t6, .str "beat" t7]) (hall : ∀ p ∈ partsT, KDct K w aP p.1 (.int p.2)) : PartsOk2 K w mg aP := by
  refine ⟨hm, ⟨es, n, hl, hk⟩, hs, hall, fun z hz => ⟨es, n, hl, hk, ?_⟩⟩
  obtain ⟨t1, t2, t3, t4, t5, t6, t7, e⟩ := hkeys
  have key : ∀ d ∈ es.toList, d.key.isStr z = false ∧ d.refKey = false := by
    intro d hd
    have hmem : d.key ∈ es.toList.map DictEntry.key := List.mem_map.mpr ⟨d, hd, rfl⟩
    rw [e] at hmem
    have q : ∀ (x : Str) (t : Tok), x ∈ partsT.map Prod.fst → d.key = .str x t → d.key.isStr z = false ∧ d.refKey = false := by
      intro x t hx h
      unfold DictEntry.refKey
      rw [h]
      refine ⟨?_, rfl⟩
      show (x == z) = false
      simp only [beq_eq_false_iff_ne]
      rintro rfl
      exact hz hx
    simp only [List.mem_cons, List.not_mem_nil, or_false] at hmem
    rcases hmem with h | h | h | h | h | h | h <;> exact q _ _ (by simp [partsT]) h
  unfold PySem.W.nsIn
  rw [hl]
  dsimp only
  have h1 : es.toList.find? (fun d => d.key.isStr z) = none := List.find?_eq_none.mpr fun d hd => by rw [(key d hd).1]; simp
  have h2 : es.toList.any (fun d => d.refKey) = false := List.any_eq_false.mpr fun d hd => by rw [(key d hd).2]; simp
  rw [h1]
  dsimp only
  rw [h2]
  rfl
end Mx

namespace Mx
open PySem L2 LamX
theorem all_mk {l : PySem.W.OpenLaw} {w : World} {K : PySem.W.Frag} {h : Heap} {mg : Str → Option Value} {fa f_is_whole f_law_taken f_law_number f_law_alike f_are_plain f_is_parcel f_is_deed f_number_of f_deed_of f_read f_law_text f_law_steps f_law_figures f_law_read f_law_spoilt f_law_word f_law aP c0 c1 c2 c3 c4 c5 c6 c7 c8 c9 c10 c11 cT cM nM nT fI cdI ccI cL Pt : Addr} (X : K.In h) (G : h.Ns mainGlobals mg) (hfa : mg "law" = some (.ref fa)) (OT : OwnTab K fa h)
    {od_is_whole an_is_whole od_law_taken an_law_taken od_law_number an_law_number od_law_alike an_law_alike od_are_plain an_are_plain od_is_parcel an_is_parcel od_is_deed an_is_deed od_number_of an_number_of od_deed_of an_deed_of od_read an_read od_law_text an_law_text od_law_steps an_law_steps od_law_figures an_law_figures od_law_read an_law_read od_law_spoilt an_law_spoilt od_law_word an_law_word od_law an_law ddT ddM odI anI cldI cddI ddL : Option Addr} {sl_is_whole sl_law_taken sl_law_number sl_law_alike sl_are_plain sl_is_parcel sl_is_deed sl_number_of sl_deed_of sl_read sl_law_text sl_law_steps sl_law_figures sl_law_read sl_law_spoilt sl_law_word sl_law oslI cslI ccsI slL : Array (Option Value)} {oc_is_whole kV_is_whole dc_is_whole pm_is_whole ct_is_whole cd_is_whole oc_law_taken kV_law_taken dc_law_taken pm_law_taken ct_law_taken cd_law_taken oc_law_number kV_law_number dc_law_number pm_law_number ct_law_number cd_law_number oc_law_alike kV_law_alike dc_law_alike pm_law_alike ct_law_alike cd_law_alike oc_are_plain kV_are_plain dc_are_plain pm_are_plain ct_are_plain cd_are_plain oc_is_parcel kV_is_parcel dc_is_parcel pm_is_parcel ct_is_parcel cd_is_parcel oc_is_deed kV_is_deed dc_is_deed pm_is_deed ct_is_deed cd_is_deed oc_number_of kV_number_of dc_number_of pm_number_of ct_number_of cd_number_of oc_deed_of kV_deed_of dc_deed_of pm_deed_of ct_deed_of cd_deed_of oc_read kV_read dc_read pm_read ct_read cd_read oc_law_text kV_law_text dc_law_text pm_law_text ct_law_text cd_law_text oc_law_steps kV_law_steps dc_law_steps pm_law_steps ct_law_steps cd_law_steps oc_law_figures kV_law_figures dc_law_figures pm_law_figures ct_law_figures cd_law_figures oc_law_read kV_law_read dc_law_read pm_law_read ct_law_read cd_law_read oc_law_spoilt kV_law_spoilt dc_law_spoilt pm_law_spoilt ct_law_spoilt cd_law_spoilt oc_law_word kV_law_word dc_law_word pm_law_word ct_law_word cd_law_word oc_law kV_law dc_law pm_law ct_law ocI docI pmI ctI clI cclI : Value} {t_MOST_DEEDS t_FIGURES tPadd tPparcel tPend tPlead tPhush tPwake tPbeat tfI tfL tgL ttL : Tok} {esP : Array DictEntry} {nP : Nat} {vsI vsL : Array Value}
    {nmT qT nmM qM fileI fileL : Str} {bsT bmT subT bsM bmM subM : List Value} {snT snM : List Str} {abT abM hdM inL : Bool} {colT colM : Option Bool} {k0T k1T k2T k3T k5T k0M k1M k2M k3M k5M : Option Value} {newM : String} {a1 a2 q1 q2 q3 q4 q5 q6 q7 q8 q9 q10 q11 q12 q13 q14 : Pos} {flL teL : Int}
    (a_is_whole : PySem.W.nsIn K mainGlobals "is_whole" = some (some (.ref f_is_whole)))
    (l_is_whole : K.lookup f_is_whole = some ⟨oc_is_whole, od_is_whole, .func (PySem.W.fnOf "is_whole" "is_whole" (defArgs s_is_whole) (defBody s_is_whole) (defScope s_is_whole) .none kV_is_whole dc_is_whole pm_is_whole an_is_whole cd_is_whole ct_is_whole), sl_is_whole⟩)
    (c_is_whole : PySem.W.codeIn K cd_is_whole "is_whole" = true)
    (k_is_whole : PySem.W.keepIn K (.ref f_is_whole) = true)
    (a_law_taken : PySem.W.nsIn K mainGlobals "_law_taken" = some (some (.ref f_law_taken)))
    (l_law_taken : K.lookup f_law_taken = some ⟨oc_law_taken, od_law_taken, .func (PySem.W.fnOf "_law_taken" "_law_taken" (defArgs s_law_taken) (defBody s_law_taken) (defScope s_law_taken) .none kV_law_taken dc_law_taken pm_law_taken an_law_taken cd_law_taken ct_law_taken), sl_law_taken⟩)
    (c_law_taken : PySem.W.codeIn K cd_law_taken "_law_taken" = true)
    (k_law_taken : PySem.W.keepIn K (.ref f_law_taken) = true)
    (a_law_number : PySem.W.nsIn K mainGlobals "_law_number" = some (some (.ref f_law_number)))
    (l_law_number : K.lookup f_law_number = some ⟨oc_law_number, od_law_number, .func (PySem.W.fnOf "_law_number" "_law_number" (defArgs s_law_number) (defBody s_law_number) (defScope s_law_number) .none kV_law_number dc_law_number pm_law_number an_law_number cd_law_number ct_law_number), sl_law_number⟩)
    (c_law_number : PySem.W.codeIn K cd_law_number "_law_number" = true)
    (k_law_number : PySem.W.keepIn K (.ref f_law_number) = true)
    (a_law_alike : PySem.W.nsIn K mainGlobals "_law_alike" = some (some (.ref f_law_alike)))
    (l_law_alike : K.lookup f_law_alike = some ⟨oc_law_alike, od_law_alike, .func (PySem.W.fnOf "_law_alike" "_law_alike" (defArgs s_law_alike) (defBody s_law_alike) (defScope s_law_alike) .none kV_law_alike dc_law_alike pm_law_alike an_law_alike cd_law_alike ct_law_alike), sl_law_alike⟩)
    (c_law_alike : PySem.W.codeIn K cd_law_alike "_law_alike" = true)
    (k_law_alike : PySem.W.keepIn K (.ref f_law_alike) = true)
    (a_are_plain : PySem.W.nsIn K mainGlobals "are_plain" = some (some (.ref f_are_plain)))
    (l_are_plain : K.lookup f_are_plain = some ⟨oc_are_plain, od_are_plain, .func (PySem.W.fnOf "are_plain" "are_plain" (defArgs s_are_plain) (defBody s_are_plain) (defScope s_are_plain) .none kV_are_plain dc_are_plain pm_are_plain an_are_plain cd_are_plain ct_are_plain), sl_are_plain⟩)
    (c_are_plain : PySem.W.codeIn K cd_are_plain "are_plain" = true)
    (k_are_plain : PySem.W.keepIn K (.ref f_are_plain) = true)
    (a_is_parcel : PySem.W.nsIn K mainGlobals "is_parcel" = some (some (.ref f_is_parcel)))
    (l_is_parcel : K.lookup f_is_parcel = some ⟨oc_is_parcel, od_is_parcel, .func (PySem.W.fnOf "is_parcel" "is_parcel" (defArgs s_is_parcel) (defBody s_is_parcel) (defScope s_is_parcel) .none kV_is_parcel dc_is_parcel pm_is_parcel an_is_parcel cd_is_parcel ct_is_parcel), sl_is_parcel⟩)
    (c_is_parcel : PySem.W.codeIn K cd_is_parcel "is_parcel" = true)
    (k_is_parcel : PySem.W.keepIn K (.ref f_is_parcel) = true)
    (a_is_deed : PySem.W.nsIn K mainGlobals "is_deed" = some (some (.ref f_is_deed)))
    (l_is_deed : K.lookup f_is_deed = some ⟨oc_is_deed, od_is_deed, .func (PySem.W.fnOf "is_deed" "is_deed" (defArgs s_is_deed) (defBody s_is_deed) (defScope s_is_deed) .none kV_is_deed dc_is_deed pm_is_deed an_is_deed cd_is_deed ct_is_deed), sl_is_deed⟩)
    (c_is_deed : PySem.W.codeIn K cd_is_deed "is_deed" = true)
    (k_is_deed : PySem.W.keepIn K (.ref f_is_deed) = true)
    (a_number_of : PySem.W.nsIn K mainGlobals "number_of" = some (some (.ref f_number_of)))
    (l_number_of : K.lookup f_number_of = some ⟨oc_number_of, od_number_of, .func (PySem.W.fnOf "number_of" "number_of" (defArgs s_number_of) (defBody s_number_of) (defScope s_number_of) .none kV_number_of dc_number_of pm_number_of an_number_of cd_number_of ct_number_of), sl_number_of⟩)
    (c_number_of : PySem.W.codeIn K cd_number_of "number_of" = true)
    (k_number_of : PySem.W.keepIn K (.ref f_number_of) = true)
    (a_deed_of : PySem.W.nsIn K mainGlobals "deed_of" = some (some (.ref f_deed_of)))
    (l_deed_of : K.lookup f_deed_of = some ⟨oc_deed_of, od_deed_of, .func (PySem.W.fnOf "deed_of" "deed_of" (defArgs s_deed_of) (defBody s_deed_of) (defScope s_deed_of) .none kV_deed_of dc_deed_of pm_deed_of an_deed_of cd_deed_of ct_deed_of), sl_deed_of⟩)
    (c_deed_of : PySem.W.codeIn K cd_deed_of "deed_of" = true)
    (k_deed_of : PySem.W.keepIn K (.ref f_deed_of) = true)
    (a_read : PySem.W.nsIn K mainGlobals "read" = some (some (.ref f_read)))
    (l_read : K.lookup f_read = some ⟨oc_read, od_read, .func (PySem.W.fnOf "read" "read" (defArgs s_read) (defBody s_read) (defScope s_read) .none kV_read dc_read pm_read an_read cd_read ct_read), sl_read⟩)
    (c_read : PySem.W.codeIn K cd_read "read" = true)
    (k_read : PySem.W.keepIn K (.ref f_read) = true)
    (a_law_text : PySem.W.nsIn K mainGlobals "_law_text" = some (some (.ref f_law_text)))
    (l_law_text : K.lookup f_law_text = some ⟨oc_law_text, od_law_text, .func (PySem.W.fnOf "_law_text" "_law_text" (defArgs s_law_text) (defBody s_law_text) (defScope s_law_text) .none kV_law_text dc_law_text pm_law_text an_law_text cd_law_text ct_law_text), sl_law_text⟩)
    (c_law_text : PySem.W.codeIn K cd_law_text "_law_text" = true)
    (k_law_text : PySem.W.keepIn K (.ref f_law_text) = true)
    (a_law_steps : PySem.W.nsIn K mainGlobals "_law_steps" = some (some (.ref f_law_steps)))
    (l_law_steps : K.lookup f_law_steps = some ⟨oc_law_steps, od_law_steps, .func (PySem.W.fnOf "_law_steps" "_law_steps" (defArgs s_law_steps) (defBody s_law_steps) (defScope s_law_steps) .none kV_law_steps dc_law_steps pm_law_steps an_law_steps cd_law_steps ct_law_steps), sl_law_steps⟩)
    (c_law_steps : PySem.W.codeIn K cd_law_steps "_law_steps" = true)
    (k_law_steps : PySem.W.keepIn K (.ref f_law_steps) = true)
    (a_law_figures : PySem.W.nsIn K mainGlobals "_law_figures" = some (some (.ref f_law_figures)))
    (l_law_figures : K.lookup f_law_figures = some ⟨oc_law_figures, od_law_figures, .func (PySem.W.fnOf "_law_figures" "_law_figures" (defArgs s_law_figures) (defBody s_law_figures) (defScope s_law_figures) .none kV_law_figures dc_law_figures pm_law_figures an_law_figures cd_law_figures ct_law_figures), sl_law_figures⟩)
    (c_law_figures : PySem.W.codeIn K cd_law_figures "_law_figures" = true)
    (k_law_figures : PySem.W.keepIn K (.ref f_law_figures) = true)
    (a_law_read : PySem.W.nsIn K mainGlobals "_law_read" = some (some (.ref f_law_read)))
    (l_law_read : K.lookup f_law_read = some ⟨oc_law_read, od_law_read, .func (PySem.W.fnOf "_law_read" "_law_read" (defArgs s_law_read) (defBody s_law_read) (defScope s_law_read) .none kV_law_read dc_law_read pm_law_read an_law_read cd_law_read ct_law_read), sl_law_read⟩)
    (c_law_read : PySem.W.codeIn K cd_law_read "_law_read" = true)
    (k_law_read : PySem.W.keepIn K (.ref f_law_read) = true)
    (a_law_spoilt : PySem.W.nsIn K mainGlobals "_law_spoilt" = some (some (.ref f_law_spoilt)))
    (l_law_spoilt : K.lookup f_law_spoilt = some ⟨oc_law_spoilt, od_law_spoilt, .func (PySem.W.fnOf "_law_spoilt" "_law_spoilt" (defArgs s_law_spoilt) (defBody s_law_spoilt) (defScope s_law_spoilt) .none kV_law_spoilt dc_law_spoilt pm_law_spoilt an_law_spoilt cd_law_spoilt ct_law_spoilt), sl_law_spoilt⟩)
    (c_law_spoilt : PySem.W.codeIn K cd_law_spoilt "_law_spoilt" = true)
    (k_law_spoilt : PySem.W.keepIn K (.ref f_law_spoilt) = true)
    (a_law_word : PySem.W.nsIn K mainGlobals "_law_word" = some (some (.ref f_law_word)))
    (l_law_word : K.lookup f_law_word = some ⟨oc_law_word, od_law_word, .func (PySem.W.fnOf "_law_word" "_law_word" (defArgs s_law_word) (defBody s_law_word) (defScope s_law_word) .none kV_law_word dc_law_word pm_law_word an_law_word cd_law_word ct_law_word), sl_law_word⟩)
    (c_law_word : PySem.W.codeIn K cd_law_word "_law_word" = true)
    (k_law_word : PySem.W.keepIn K (.ref f_law_word) = true)
    (a_law : PySem.W.nsIn K mainGlobals "law" = some (some (.ref f_law)))
    (l_law : K.lookup f_law = some ⟨oc_law, od_law, .func (PySem.W.fnOf "law" "law" (defArgs s_law) (defBody s_law) (defScope s_law) .none kV_law dc_law pm_law an_law (.ref cL) ct_law), sl_law⟩)
    (c_law : PySem.W.codeIn K (.ref cL) "law" = true)
    (k_law : PySem.W.keepIn K (.ref f_law) = true)
    (z_isinstance : PySem.W.nsIn K mainGlobals "isinstance" = some none)
    (z_bool : PySem.W.nsIn K mainGlobals "bool" = some none)
    (z_int : PySem.W.nsIn K mainGlobals "int" = some none)
    (z_tuple : PySem.W.nsIn K mainGlobals "tuple" = some none)
    (z_len : PySem.W.nsIn K mainGlobals "len" = some none)
    (z_all : PySem.W.nsIn K mainGlobals "all" = some none)
    (z_any : PySem.W.nsIn K mainGlobals "any" = some none)
    (z_max : PySem.W.nsIn K mainGlobals "max" = some none)
    (z_divmod : PySem.W.nsIn K mainGlobals "divmod" = some none)
    (z_enumerate : PySem.W.nsIn K mainGlobals "enumerate" = some none)
    (z_sorted : PySem.W.nsIn K mainGlobals "sorted" = some none)
    (z_list : PySem.W.nsIn K mainGlobals "list" = some none)
    (z_range : PySem.W.nsIn K mainGlobals "range" = some none)
    (z_abs : PySem.W.nsIn K mainGlobals "abs" = some none)
    (z_str : PySem.W.nsIn K mainGlobals "str" = some none)
    (z_super : PySem.W.nsIn K mainGlobals "super" = some none)
    (z_ValueError : PySem.W.nsIn K mainGlobals "ValueError" = some none)
    (v_MOST_DEEDS : PySem.W.nsIn K mainGlobals "MOST_DEEDS" = some (some (.int 300 t_MOST_DEEDS)))
    (v_FIGURES : PySem.W.nsIn K mainGlobals "FIGURES" = some (some (.str "0123456789" t_FIGURES)))
    (v_PARTS : PySem.W.nsIn K mainGlobals "PARTS" = some (some (.ref aP)))
    (l_PARTS : K.lookup aP = some ⟨.type "dict", none, .dict esP nP, #[]⟩)
    (m_PARTS : ∃ t1 t2 t3 t4 t5 t6 t7 : Tok, esP.toList.map DictEntry.key = [.str "add" t1, .str "parcel" t2, .str "end" t3, .str "lead" t4, .str "hush" t5, .str "wake" t6, .str "beat" t7])
    (q_PARTS : PySem.W.KeysLit w.params esP.toList)
    (y_PARTS : (aP == sysModules) = false)
    (p_add : PySem.W.nsIn K aP "add" = some (some (.int 5 tPadd)))
    (p_parcel : PySem.W.nsIn K aP "parcel" = some (some (.int 3 tPparcel)))
    (p_end : PySem.W.nsIn K aP "end" = some (some (.int 2 tPend)))
    (p_lead : PySem.W.nsIn K aP "lead" = some (some (.int 3 tPlead)))
    (p_hush : PySem.W.nsIn K aP "hush" = some (some (.int 1 tPhush)))
    (p_wake : PySem.W.nsIn K aP "wake" = some (some (.int 1 tPwake)))
    (p_beat : PySem.W.nsIn K aP "beat" = some (some (.int 0 tPbeat)))
    (a_BadSoft : PySem.W.nsIn K mainGlobals "BadSoft" = some (some (.ref c0)))
    (a_BadName : PySem.W.nsIn K mainGlobals "BadName" = some (some (.ref c1)))
    (a_There : PySem.W.nsIn K mainGlobals "There" = some (some (.ref c2)))
    (a_NoVoice : PySem.W.nsIn K mainGlobals "NoVoice" = some (some (.ref c3)))
    (a_BadPace : PySem.W.nsIn K mainGlobals "BadPace" = some (some (.ref c4)))
    (a_BadWait : PySem.W.nsIn K mainGlobals "BadWait" = some (some (.ref c5)))
    (a_BadParcel : PySem.W.nsIn K mainGlobals "BadParcel" = some (some (.ref c6)))
    (a_BadEnd : PySem.W.nsIn K mainGlobals "BadEnd" = some (some (.ref c7)))
    (a_BadLead : PySem.W.nsIn K mainGlobals "BadLead" = some (some (.ref c8)))
    (a_BadBounds : PySem.W.nsIn K mainGlobals "BadBounds" = some (some (.ref c9)))
    (a_BadArrivals : PySem.W.nsIn K mainGlobals "BadArrivals" = some (some (.ref c10)))
    (a_BadDeed : PySem.W.nsIn K mainGlobals "BadDeed" = some (some (.ref c11)))
    (a_BadText : PySem.W.nsIn K mainGlobals "BadText" = some (some (.ref cT)))
    (a_MixError : PySem.W.nsIn K mainGlobals "MixError" = some (some (.ref cM)))
    (e_ga : PySem.W.findIn K (.ref cT) "__getattribute__" = some (some (.builtin "BaseException.__getattribute__")))
    (e_gg : PySem.W.findIn K (.ref cT) "__getattr__" = some none)
    (e_sb : PySem.W.subIn K (.ref cT) (.type "BaseException") = some true)
    (e_ca : PySem.W.findIn K (.ref cT) "__class__" = some (some (.builtin "object.__class__")))
    (e_sp : PySem.W.specialIn K (.builtin "object.__class__") "__get__" = some (some (.builtin "getset_descriptor.__get__")))
    (e_tk : PySem.W.takesIn K (.builtin "object.__class__") = some true)
    (e_mo : PySem.W.mroIn K cT (.type "object") = some true)
    (it_0 : PySem.W.typeIn K (.ref c0) = some (.type "type"))
    (ic_0 : PySem.W.isClsIn K c0 = true)
    (is_0 : PySem.W.subIn K (.ref cT) (.ref c0) = some false)
    (it_1 : PySem.W.typeIn K (.ref c1) = some (.type "type"))
    (ic_1 : PySem.W.isClsIn K c1 = true)
    (is_1 : PySem.W.subIn K (.ref cT) (.ref c1) = some false)
    (it_2 : PySem.W.typeIn K (.ref c2) = some (.type "type"))
    (ic_2 : PySem.W.isClsIn K c2 = true)
    (is_2 : PySem.W.subIn K (.ref cT) (.ref c2) = some false)
    (it_3 : PySem.W.typeIn K (.ref c3) = some (.type "type"))
    (ic_3 : PySem.W.isClsIn K c3 = true)
    (is_3 : PySem.W.subIn K (.ref cT) (.ref c3) = some false)
    (it_4 : PySem.W.typeIn K (.ref c4) = some (.type "type"))
    (ic_4 : PySem.W.isClsIn K c4 = true)
    (is_4 : PySem.W.subIn K (.ref cT) (.ref c4) = some false)
    (it_5 : PySem.W.typeIn K (.ref c5) = some (.type "type"))
    (ic_5 : PySem.W.isClsIn K c5 = true)
    (is_5 : PySem.W.subIn K (.ref cT) (.ref c5) = some false)
    (it_6 : PySem.W.typeIn K (.ref c6) = some (.type "type"))
    (ic_6 : PySem.W.isClsIn K c6 = true)
    (is_6 : PySem.W.subIn K (.ref cT) (.ref c6) = some false)
    (it_7 : PySem.W.typeIn K (.ref c7) = some (.type "type"))
    (ic_7 : PySem.W.isClsIn K c7 = true)
    (is_7 : PySem.W.subIn K (.ref cT) (.ref c7) = some false)
    (it_8 : PySem.W.typeIn K (.ref c8) = some (.type "type"))
    (ic_8 : PySem.W.isClsIn K c8 = true)
    (is_8 : PySem.W.subIn K (.ref cT) (.ref c8) = some false)
    (it_9 : PySem.W.typeIn K (.ref c9) = some (.type "type"))
    (ic_9 : PySem.W.isClsIn K c9 = true)
    (is_9 : PySem.W.subIn K (.ref cT) (.ref c9) = some false)
    (it_10 : PySem.W.typeIn K (.ref c10) = some (.type "type"))
    (ic_10 : PySem.W.isClsIn K c10 = true)
    (is_10 : PySem.W.subIn K (.ref cT) (.ref c10) = some false)
    (it_11 : PySem.W.typeIn K (.ref c11) = some (.type "type"))
    (ic_11 : PySem.W.isClsIn K c11 = true)
    (is_11 : PySem.W.subIn K (.ref cT) (.ref c11) = some false)
    (it_M : PySem.W.typeIn K (.ref cM) = some (.type "type"))
    (ic_M : PySem.W.isClsIn K cM = true)
    (is_M : PySem.W.subIn K (.ref cT) (.ref cM) = some true)
    (ib_M : PySem.W.subIn K (.ref cM) (.type "BaseException") = some true)
    (x_clsM : K.lookup cM = some (PySem.excClassObj nmM qM cM nM bsM bmM hdM snM subM abM colM ddM k0M k1M k2M k3M k5M newM))
    (x_iM : PySem.W.findIn K (.ref cM) "__init__" = some (some (.builtin "ValueError.__init__")))
    (e_hd : PySem.W.hasDictIn K cT = true)
    (e_no : PySem.W.findIn K (.ref cT) "row" = some none)
    (x_cls : K.lookup cT = some (PySem.excClassObj nmT qT cT nT bsT bmT true snT subT abT colT ddT k0T k1T k2T k3T k5T "ValueError.__new__"))
    (x_ve : PySem.HandSPX.refsVE bmT = true)
    (x_sa : PySem.W.findIn K (.ref cT) "__setattr__" = some (some (.builtin "object.__setattr__")))
    (x_iC : PySem.W.findIn K (.ref cT) "__init__" = some (some (.ref fI)))
    (x_tC : PySem.W.typeIn K (.ref fI) = some (.type "function"))
    (x_kC : PySem.W.keepIn K (.ref cT) = true)
    (x_tyC : PySem.W.typeIn K (.ref cT) = some (.type "type"))
    (x_subV : PySem.W.subIn K (.ref cT) (.type "ValueError") = some true)
    (x_mro : PySem.W.mroIn K cT (.ref cT) = some true)
    (x_bm : bmT = .ref cM :: bmM)
    (x_opq : PySem.W.nsIn K cStatics "thirdparty.any" = some none)
    (x_top : (l.prog.main.scope.names.lookup ("super" : Str)).isSome = false)
    (x_fn : K.lookup fI = some ⟨ocI, odI, .func (PySem.W.ksFn "__init__" "BadText.__init__" (PySem.MxX.parA "row" ⟨a1, a2, q1, q2, q3, q4, q5, q6, q7, q8, q9, q10, q11, q12, q13, q14⟩) (PySem.MxX.bodyA "row" "row " " writes no deed" ⟨a1, a2, q1, q2, q3, q4, q5, q6, q7, q8, q9, q10, q11, q12, q13, q14⟩) (PySem.MxX.scoA "row") .none .none docI pmI anI (.ref cdI) ctI ccI), oslI⟩)
    (x_cd : PySem.W.codeIn K (.ref cdI) "BadText.__init__" = true)
    (x_cc : K.lookup ccI = some ⟨clI, cldI, .cell (some (.ref cT)), cslI⟩)
    (x_cda : K.lookup cdI = some ⟨cclI, cddI, .fields vsI, ccsI⟩)
    (x_2 : vsI[2]? = some (.str fileI tfI))
    (x_file : ((l.prog.main.file : Str) == fileI) = true)
    (x_line : (q3.endLine == q9.line) = true)
    (y_code : K.lookup cL = some ⟨.type "code", ddL, .fields vsL, slL⟩)
    (y_11 : vsL[11]? = some (.ref Pt))
    (y_18 : vsL.getD 18 .none = .str fileL tfL)
    (y_7 : vsL.getD 7 .none = .int flL tgL)
    (y_9 : vsL.getD 9 .none = .bool inL)
    (y_10 : vsL.getD 10 .none = .int teL ttL)
    (y_ne : (cL == Pt) = false)
    (y_nT : K.lookup Pt = none) :
    LawAtS l w K CX0 7 63 "_law_script" mg fa h := by
  have e := hfa.symm.trans (PySem.W.mg_of X G a_law)
  cases e
  have B : Blt mg := ⟨PySem.W.mg_none_of X G z_isinstance, PySem.W.mg_none_of X G z_bool, PySem.W.mg_none_of X G z_int, PySem.W.mg_none_of X G z_tuple, PySem.W.mg_none_of X G z_len, PySem.W.mg_none_of X G z_all, PySem.W.mg_none_of X G z_any, PySem.W.mg_none_of X G z_max, PySem.W.mg_none_of X G z_divmod, PySem.W.mg_none_of X G z_enumerate, PySem.W.mg_none_of X G z_sorted, PySem.W.mg_none_of X G z_list, PySem.W.mg_none_of X G z_range, PySem.W.mg_none_of X G z_abs, PySem.W.mg_none_of X G z_str⟩
  have hPARTS2 : PartsOk2 K w mg aP := parts_ok2 (PySem.W.mg_of X G v_PARTS) l_PARTS q_PARTS y_PARTS m_PARTS (fun p hp => by
    unfold partsT at hp
    simp only [List.mem_cons, List.not_mem_nil, or_false] at hp
    rcases hp with rfl | rfl | rfl | rfl | rfl | rfl | rfl
    · exact ⟨_, _, _, l_PARTS, q_PARTS, p_add, ⟨_, rfl⟩⟩
    · exact ⟨_, _, _, l_PARTS, q_PARTS, p_parcel, ⟨_, rfl⟩⟩
    · exact ⟨_, _, _, l_PARTS, q_PARTS, p_end, ⟨_, rfl⟩⟩
    · exact ⟨_, _, _, l_PARTS, q_PARTS, p_lead, ⟨_, rfl⟩⟩
    · exact ⟨_, _, _, l_PARTS, q_PARTS, p_hush, ⟨_, rfl⟩⟩
    · exact ⟨_, _, _, l_PARTS, q_PARTS, p_wake, ⟨_, rfl⟩⟩
    · exact ⟨_, _, _, l_PARTS, q_PARTS, p_beat, ⟨_, rfl⟩⟩)
  have x_cl : PySem.W.clsIn K cT = some { name := nmT, bases := bsT, mro := .ref cT :: bmT, ns := nT, qualname := qT, hasDict := true, slotNames := snT, subclasses := subT, abstract := abT, collection := colT, hasDel := false } := by unfold PySem.W.clsIn; rw [x_cls] <;> rfl
  have e_cl : (PySem.W.clsIn K cT).isSome = true := by rw [x_cl]; rfl
  have x_sin : PySem.W.ks_superIn K cT cT "__init__" = some (some (.builtin "ValueError.__init__")) := by
    have e : PySem.W.findIn K (.ref cM) "__init__" = PySem.W.alongIn K "__init__" (.ref cM :: bmM) := by
      show (match K.lookup cM with
        | some ⟨_, _, .cls cd, _⟩ => PySem.W.alongIn K "__init__" cd.mro
        | _ => none) = _
      rw [x_clsM] <;> rfl
    have q := e.symm.trans x_iM
    unfold PySem.W.ks_superIn
    rw [x_cl]
    show PySem.W.alongIn K "__init__" (((Value.ref cT :: bmT).dropWhile (· != .ref cT)).drop 1) = _
    rw [List.dropWhile_cons_of_neg (by simp), x_bm]
    exact q
  have i_ve : PySem.W.kitOne K (.ref cT) (.type "ValueError") = some true := by
    unfold PySem.W.kitOne
    rw [if_neg (show ¬ (Value.ref cT == Value.type "ValueError") = true from fun z => by
      have e := eq_of_beq z
      cases e)]
    unfold PySem.W.kitCls
    show (if PySem.W.kitMeta "ValueError" = true then _ else none) = _
    rw [if_pos (by decide +kernel)]
    exact x_subV
  have i_im : PySem.W.exmOne K (.ref cT) (.ref cM) = some true := by
    unfold PySem.W.exmOne
    rw [if_pos (by rw [ib_M]; rfl)]
    unfold PySem.W.kitCls
    show (if ((PySem.W.clsIn K cM).isSome && PySem.W.typeIn K (.ref cM) == some (.type "type")) = true then _ else none) = _
    rw [if_pos (by rw [show (PySem.W.clsIn K cM).isSome = true from ic_M, it_M]; rfl)]
    exact is_M
  have kit : ∀ {c : Addr}, PySem.W.typeIn K (.ref c) = some (.type "type") → PySem.W.isClsIn K c = true → PySem.W.subIn K (.ref cT) (.ref c) = some false → PySem.W.kitOne K (.ref cT) (.ref c) = some false := fun {c} h1 h2 h3 => by
    have hne : ¬ (Value.ref cT == Value.ref c) = true := fun z => by
      have e := eq_of_beq z
      cases e
      have q : PySem.W.subIn K (.ref cT) (.ref cT) = some true := x_mro
      rw [q] at h3
      cases h3
    unfold PySem.W.kitOne
    rw [if_neg hne]
    unfold PySem.W.kitCls
    show (if ((PySem.W.clsIn K c).isSome && PySem.W.typeIn K (.ref c) == some (.type "type")) = true then _ else none) = _
    rw [if_pos (by rw [show (PySem.W.clsIn K c).isSome = true from h2, h1]; rfl)]
    exact h3
  have i_12 : PySem.W.kitOne K (.ref cT) (.ref cT) = some true := by
    unfold PySem.W.kitOne
    rw [if_pos (beq_self_eq_true _)]
  have NR : PySem.MxX.NumR l.prog K cT fI "BadText.__init__" "row " " writes no deed" := ⟨⟨nmT, qT, nT, bsT, bmT, snT, subT, abT, colT, ddT, k0T, k1T, k2T, k3T, k5T, x_cls, x_ve⟩, x_sa, e_ga, e_gg, e_no, x_iC, x_tC, x_kC, e_sb, x_tyC, e_hd, x_subV, x_mro, x_sin, x_opq, x_top, ⟨ocI, odI, docI, pmI, anI, cdI, ctI, oslI, ⟨a1, a2, q1, q2, q3, q4, q5, q6, q7, q8, q9, q10, q11, q12, q13, q14⟩, ccI, clI, cldI, cslI, cclI, cddI, vsI, ccsI, fileI, tfI, x_fn, x_cd, x_cc, x_cda, x_2, x_file, x_line⟩⟩
  obtain ⟨cw, hcw⟩ : ∃ cw : Nat → Addr, cw = fun j => [c0, c1, c2, c3, c4, c5, c6, c7, c8, c9, c10, c11, cT].getD j 0 := ⟨_, rfl⟩
  have WG : WordG mg cw cM := by
    subst hcw
    exact ⟨PySem.W.mg_of X G a_BadSoft, PySem.W.mg_of X G a_BadName, PySem.W.mg_of X G a_There, PySem.W.mg_of X G a_NoVoice, PySem.W.mg_of X G a_BadPace, PySem.W.mg_of X G a_BadWait, PySem.W.mg_of X G a_BadParcel, PySem.W.mg_of X G a_BadEnd, PySem.W.mg_of X G a_BadLead, PySem.W.mg_of X G a_BadBounds, PySem.W.mg_of X G a_BadArrivals, PySem.W.mg_of X G a_BadDeed, PySem.W.mg_of X G a_BadText, PySem.W.mg_of X G a_MixError, PySem.W.mg_none_of X G z_ValueError⟩
  have WJ : WordJ K cw cM 12 := by
    subst hcw
    refine ⟨⟨e_cl, e_ga, e_gg, e_sb, e_ca, e_sp, e_tk, e_mo⟩, fun i hi => ?_, i_ve, i_im⟩
    match i, hi with
    | 0, _ => exact kit it_0 ic_0 is_0
    | 1, _ => exact kit it_1 ic_1 is_1
    | 2, _ => exact kit it_2 ic_2 is_2
    | 3, _ => exact kit it_3 ic_3 is_3
    | 4, _ => exact kit it_4 ic_4 is_4
    | 5, _ => exact kit it_5 ic_5 is_5
    | 6, _ => exact kit it_6 ic_6 is_6
    | 7, _ => exact kit it_7 ic_7 is_7
    | 8, _ => exact kit it_8 ic_8 is_8
    | 9, _ => exact kit it_9 ic_9 is_9
    | 10, _ => exact kit it_10 ic_10 is_10
    | 11, _ => exact kit it_11 ic_11 is_11
    | 12, _ => exact i_12
  have F12 : FldE K (cw 12) "row" := by
    subst hcw
    exact ⟨e_ga, e_gg, e_sb, e_hd, e_no⟩
  have ecT : cT = cw 12 := by rw [hcw]; rfl
  have F_is_whole := fun_mk (st := s_is_whole) l_is_whole c_is_whole k_is_whole
  have b_is_whole := F_is_whole.binds (ps := ["number", "low", "high"]) fun _ _ _ _ _ _ us hl => match us, hl with | [_, _, _], _ => rfl
  have F_law_taken := fun_mk (st := s_law_taken) l_law_taken c_law_taken k_law_taken
  have b_law_taken := F_law_taken.binds (ps := ["_law_row", "_law_many"]) fun _ _ _ _ _ _ us hl => match us, hl with | [_, _], _ => rfl
  have F_law_number := fun_mk (st := s_law_number) l_law_number c_law_number k_law_number
  have b_law_number := F_law_number.binds (ps := ["_law_row"]) fun _ _ _ _ _ _ us hl => match us, hl with | [_], _ => rfl
  have F_law_alike := fun_mk (st := s_law_alike) l_law_alike c_law_alike k_law_alike
  have b_law_alike := F_law_alike.binds (ps := ["_law_found", "_law_due"]) fun _ _ _ _ _ _ us hl => match us, hl with | [_, _], _ => rfl
  have F_are_plain := fun_mk (st := s_are_plain) l_are_plain c_are_plain k_are_plain
  have b_are_plain := F_are_plain.binds (ps := ["parts"]) fun _ _ _ _ _ _ us hl => match us, hl with | [_], _ => rfl
  have F_is_parcel := fun_mk (st := s_is_parcel) l_is_parcel c_is_parcel k_is_parcel
  have b_is_parcel := F_is_parcel.binds (ps := ["numbers"]) fun _ _ _ _ _ _ us hl => match us, hl with | [_], _ => rfl
  have F_is_deed := fun_mk (st := s_is_deed) l_is_deed c_is_deed k_is_deed
  have b_is_deed := F_is_deed.binds (ps := ["deed"]) fun _ _ _ _ _ _ us hl => match us, hl with | [_], _ => rfl
  have F_number_of := fun_mk (st := s_number_of) l_number_of c_number_of k_number_of
  have b_number_of := F_number_of.binds (ps := ["word"]) fun _ _ _ _ _ _ us hl => match us, hl with | [_], _ => rfl
  have F_deed_of := fun_mk (st := s_deed_of) l_deed_of c_deed_of k_deed_of
  have b_deed_of := F_deed_of.binds (ps := ["row"]) fun _ _ _ _ _ _ us hl => match us, hl with | [_], _ => rfl
  have F_read := fun_mk (st := s_read) l_read c_read k_read
  have b_read := F_read.binds (ps := ["text"]) fun _ _ _ _ _ _ us hl => match us, hl with | [_], _ => rfl
  have F_law_text := fun_mk (st := s_law_text) l_law_text c_law_text k_law_text
  have b_law_text := F_law_text.binds (ps := ["_law_deed"]) fun _ _ _ _ _ _ us hl => match us, hl with | [_], _ => rfl
  have F_law_steps := fun_mk (st := s_law_steps) l_law_steps c_law_steps k_law_steps
  have b_law_steps := F_law_steps.binds (ps := ["_law_row", "_law_most"]) fun _ _ _ _ _ _ us hl => match us, hl with | [_, _], _ => rfl
  have F_law_figures := fun_mk (st := s_law_figures) l_law_figures c_law_figures k_law_figures
  have b_law_figures := F_law_figures.binds (ps := ["_law_word_here", "_law_low"]) fun _ _ _ _ _ _ us hl => match us, hl with | [_, _], _ => rfl
  have F_law_read := fun_mk (st := s_law_read) l_law_read c_law_read k_law_read
  have b_law_read := F_law_read.binds (ps := ["_law_line"]) fun _ _ _ _ _ _ us hl => match us, hl with | [_], _ => rfl
  have F_law_spoilt := fun_mk (st := s_law_spoilt) l_law_spoilt c_law_spoilt k_law_spoilt
  have b_law_spoilt := F_law_spoilt.binds (ps := ["_law_row", "_law_text_here"]) fun _ _ _ _ _ _ us hl => match us, hl with | [_, _], _ => rfl
  have F_law_word := fun_mk (st := s_law_word) l_law_word c_law_word k_law_word
  have b_law_word := F_law_word.binds (ps := ["_law_work"]) fun _ _ _ _ _ _ us hl => match us, hl with | [_], _ => rfl
  have hne : cL ≠ Pt := fun z => by
    rw [z] at y_ne
    simp at y_ne
  have y_11' : vsL.getD 11 .none = .ref Pt := by rw [Array.getD_eq_getD_getElem?, y_11]; rfl
  refine ⟨PySem.W.fnOf "law" "law" (defArgs s_law) (defBody s_law) (defScope s_law) .none kV_law dc_law pm_law an_law (.ref cL) ct_law, [(cL, Pt)], sp_law K Pt, fun p hp => ?_, fun p hp => ?_, fun p hp => ?_, fun s v => .of_eq rfl, fun H a ns hl _ hT hS => ⟨a, ns, rfl, hS, hl, fun p hp => ?_, fun _ => rfl⟩, fun base _ _ hTB => ?_⟩
  · rw [List.mem_singleton.mp hp]
    exact OT _ _ _ _ _ _ _ _ l_law rfl rfl y_code y_11
  · rw [List.mem_singleton.mp hp]
    exact y_nT
  · rw [List.mem_singleton.mp hp]
    exact ⟨_, vsL, fileL, tfL, flL, tgL, inL, teL, ttL, X _ _ y_code, rfl, rfl, y_11, y_11', y_18, y_7, y_9, y_10, hne⟩
  · rw [List.mem_singleton.mp hp]
    exact TabS.nil (hT (cL, Pt) List.mem_cons_self)
  have G_is_whole : OwnF l.prog w K mg base "is_whole" 1 ["number", "low", "high"] (sp_is_wholeR K) := ⟨_, _, ok_is_wholeR F_is_whole B, PySem.W.mg_of X G a_is_whole, k_is_whole, b_is_whole⟩
  have G_law_taken : OwnF l.prog w K mg base "_law_taken" 1 ["_law_row", "_law_many"] (sp_taken K) := ⟨_, _, ok_law_taken F_law_taken B, PySem.W.mg_of X G a_law_taken, k_law_taken, b_law_taken⟩
  have G_law_number : OwnF l.prog w K mg base "_law_number" 2 ["_law_row"] (sp_drawn K (-999) 999) := ⟨_, _, ok_law_number F_law_number G_law_taken, PySem.W.mg_of X G a_law_number, k_law_number, b_law_number⟩
  have G_alikeD : ∀ n, OwnF l.prog w K mg base "_law_alike" (n + 1) ["_law_found", "_law_due"] (sp_eq K n) := fun n => ⟨_, _, ok_alike_deep F_law_alike B (PySem.W.mg_of X G a_law_alike) k_law_alike b_law_alike n, PySem.W.mg_of X G a_law_alike, k_law_alike, b_law_alike⟩
  have G_are_plain : OwnF l.prog w K mg base "are_plain" 2 ["parts"] (sp_are_plainR K) := ⟨_, _, ok_are_plainR F_are_plain B G_is_whole, PySem.W.mg_of X G a_are_plain, k_are_plain, b_are_plain⟩
  have G_is_parcel : OwnF l.prog w K mg base "is_parcel" 2 ["numbers"] (sp_is_parcelR K) := ⟨_, _, ok_is_parcelR F_is_parcel B G_is_whole, PySem.W.mg_of X G a_is_parcel, k_is_parcel, b_is_parcel⟩
  have G_is_deed : OwnF l.prog w K mg base "is_deed" 3 ["deed"] (sp_is_deedR K) := ⟨_, _, ok_is_deedR F_is_deed B hPARTS2 G_are_plain G_is_parcel, PySem.W.mg_of X G a_is_deed, k_is_deed, b_is_deed⟩
  have G_number_of : OwnF l.prog w K mg base "number_of" 1 ["word"] sp_number_of := ⟨_, _, ok_number_of F_number_of B (PySem.W.mg_of X G v_FIGURES), PySem.W.mg_of X G a_number_of, k_number_of, b_number_of⟩
  have G_deed_of : OwnF l.prog w K mg base "deed_of" 2 ["row"] (sp_deed_of K) := ⟨_, _, ok_deed_of F_deed_of B G_number_of, PySem.W.mg_of X G a_deed_of, k_deed_of, b_deed_of⟩
  have G_read : OwnX l.prog w K mg base "read" 4 ["text"] (sp_readX K cT) := ⟨_, _, ok_readX F_read B (PySem.W.mg_of X G v_MOST_DEEDS) NR (PySem.W.mg_of X G a_BadText) (PySem.W.mg_none_of X G z_super) G_deed_of G_is_deed, PySem.W.mg_of X G a_read, k_read, b_read⟩
  have G_law_text : OwnF l.prog w K mg base "_law_text" 1 ["_law_deed"] (sp_law_text K) := ⟨_, _, ok_law_text F_law_text B, PySem.W.mg_of X G a_law_text, k_law_text, b_law_text⟩
  have G_law_steps : OwnF l.prog w K mg base "_law_steps" 3 ["_law_row", "_law_most"] (sp_law_steps K) := ⟨_, _, ok_law_steps F_law_steps B G_law_taken G_law_number, PySem.W.mg_of X G a_law_steps, k_law_steps, b_law_steps⟩
  have G_law_figures : OwnF l.prog w K mg base "_law_figures" 1 ["_law_word_here", "_law_low"] sp_law_figures := ⟨_, _, ok_law_figures F_law_figures B, PySem.W.mg_of X G a_law_figures, k_law_figures, b_law_figures⟩
  have G_law_read : OwnF l.prog w K mg base "_law_read" 2 ["_law_line"] (sp_law_read K) := ⟨_, _, ok_law_read F_law_read B G_law_figures, PySem.W.mg_of X G a_law_read, k_law_read, b_law_read⟩
  have G_law_spoilt : OwnF l.prog w K mg base "_law_spoilt" 2 ["_law_row", "_law_text_here"] (sp_law_spoilt K) := ⟨_, _, ok_law_spoilt F_law_spoilt B G_law_taken, PySem.W.mg_of X G a_law_spoilt, k_law_spoilt, b_law_spoilt⟩
  rw [ecT] at G_read
  have GG : G19 l.prog w K mg base (cw 12) := ⟨G_law_taken, G_alikeD, G_law_steps, G_law_text, G_law_read, G_law_spoilt, G_read⟩
  have W : WFun K mg cw cM f_law_word kV_law_word dc_law_word pm_law_word cd_law_word ct_law_word oc_law_word an_law_word od_law_word sl_law_word := ⟨PySem.W.mg_of X G a_law_word, k_law_word, l_law_word, c_law_word, b_law_word, WG, WJ, F12⟩
  refine fn_of l_law c_law sc_law (fun vs H Q E h => ?_) fun A outer s H vs Q E hr hsp => ?_
  · obtain ⟨a, ns, rfl, _⟩ := h
    rfl
  · obtain ⟨t, ht, hq⟩ := law_body B GG W (hTB (cL, Pt) List.mem_cons_self) A outer s H vs Q E hr hsp
    exact ⟨t, ht.nox, hq⟩
theorem walk {l : PySem.W.OpenLaw} {q : Program} {loose : List Str} {XP : (Str → Option Value) → Heap → Prop} {YP : World → Heap → Prop} {d : DefRec} {K : Params → PySem.W.Frag} (hn : l.most = some 63) (hdf : d.params.defaults = []) (hrec : ((PyProof.Rows.recsOf q).any fun e => e.name == d.name) = true)
    (hY : ∀ (w : World) (h : Heap), YP w h → (K w.params).In h)
    (F : ∀ (w : World) (mg : Str → Option Value) (fa : Addr) (h : Heap), (K w.params).In h → h.Ns mainGlobals mg → mg d.name = some (.ref fa) → OwnTab (K w.params) fa h → LawAtS l w (K w.params) CX0 7 63 "_law_script" mg fa h) :
    PySem.W.WalkO q loose XP YP l.row.toRowW d [] (fun f vs => PySem.call f vs) :=
  walk_ofOwn (n := 63) (k := 7) (x := "_law_script") (CX := fun _ => CX0) (K := K) hn (by decide) hdf ⟨rfl, by decide, by decide⟩ hrec hY (fun w mg fa h _ KX G hm OT => F w mg fa h KX G hm OT) fun _ _ _ _ _ z => z
end Mx

open PySem PySem.W PyProof.Rows
set_option maxRecDepth 100000 in
set_option maxHeartbeats 0 in
theorem PySem.Challenge.cw_mixserver_k19_texts_refused_holds : PySem.Challenge.rw_mixserver_k19_texts_refused.Holds := by
  w_on; o_law; k_head; (case hw => w_witness2)
  k_fill
  refine Mx.walk (l := PySem.Challenge.rw_mixserver_k19_texts_refused) rfl rfl (by decide +kernel) (fun w h Y => PySem.W.km_in_of Y) ?F
  case F =>
    intro w mg fa h KX G hmg OT
    refine' Mx.all_mk KX G hmg OT ?a_is_whole ?l_is_whole ?c_is_whole ?k_is_whole ?a_law_taken ?l_law_taken ?c_law_taken ?k_law_taken ?a_law_number ?l_law_number ?c_law_number ?k_law_number ?a_law_alike ?l_law_alike ?c_law_alike ?k_law_alike ?a_are_plain ?l_are_plain ?c_are_plain ?k_are_plain ?a_is_parcel ?l_is_parcel ?c_is_parcel ?k_is_parcel ?a_is_deed ?l_is_deed ?c_is_deed ?k_is_deed ?a_number_of ?l_number_of ?c_number_of ?k_number_of ?a_deed_of ?l_deed_of ?c_deed_of ?k_deed_of ?a_read ?l_read ?c_read ?k_read ?a_law_text ?l_law_text ?c_law_text ?k_law_text ?a_law_steps ?l_law_steps ?c_law_steps ?k_law_steps ?a_law_figures ?l_law_figures ?c_law_figures ?k_law_figures ?a_law_read ?l_law_read ?c_law_read ?k_law_read ?a_law_spoilt ?l_law_spoilt ?c_law_spoilt ?k_law_spoilt ?a_law_word ?l_law_word ?c_law_word ?k_law_word ?a_law ?l_law ?c_law ?k_law ?z_isinstance ?z_bool ?z_int ?z_tuple ?z_len ?z_all ?z_any ?z_max ?z_divmod ?z_enumerate ?z_sorted ?z_list ?z_range ?z_abs ?z_str ?z_super ?z_ValueError ?v_MOST_DEEDS ?v_FIGURES ?v_PARTS ?l_PARTS ?m_PARTS ?q_PARTS ?y_PARTS ?p_add ?p_parcel ?p_end ?p_lead ?p_hush ?p_wake ?p_beat ?a_BadSoft ?a_BadName ?a_There ?a_NoVoice ?a_BadPace ?a_BadWait ?a_BadParcel ?a_BadEnd ?a_BadLead ?a_BadBounds ?a_BadArrivals ?a_BadDeed ?a_BadText ?a_MixError ?e_ga ?e_gg ?e_sb ?e_ca ?e_sp ?e_tk ?e_mo ?it_0 ?ic_0 ?is_0 ?it_1 ?ic_1 ?is_1 ?it_2 ?ic_2 ?is_2 ?it_3 ?ic_3 ?is_3 ?it_4 ?ic_4 ?is_4 ?it_5 ?ic_5 ?is_5 ?it_6 ?ic_6 ?is_6 ?it_7 ?ic_7 ?is_7 ?it_8 ?ic_8 ?is_8 ?it_9 ?ic_9 ?is_9 ?it_10 ?ic_10 ?is_10 ?it_11 ?ic_11 ?is_11 ?it_M ?ic_M ?is_M ?ib_M ?x_clsM ?x_iM ?e_hd ?e_no ?x_cls ?x_ve ?x_sa ?x_iC ?x_tC ?x_kC ?x_tyC ?x_subV ?x_mro ?x_bm ?x_opq ?x_top ?x_fn ?x_cd ?x_cc ?x_cda ?x_2 ?x_file ?x_line ?y_code ?y_11 ?y_18 ?y_7 ?y_9 ?y_10 ?y_ne ?y_nT
    (case a_is_whole => k_is)
    (case l_is_whole => k_is)
    (case c_is_whole => k_is)
    (case k_is_whole => k_is)
    (case a_law_taken => k_is)
    (case l_law_taken => k_is)
    (case c_law_taken => k_is)
    (case k_law_taken => k_is)
    (case a_law_number => k_is)
    (case l_law_number => k_is)
    (case c_law_number => k_is)
    (case k_law_number => k_is)
    (case a_law_alike => k_is)
    (case l_law_alike => k_is)
    (case c_law_alike => k_is)
    (case k_law_alike => k_is)
    (case a_are_plain => k_is)
    (case l_are_plain => k_is)
    (case c_are_plain => k_is)
    (case k_are_plain => k_is)
    (case a_is_parcel => k_is)
    (case l_is_parcel => k_is)
    (case c_is_parcel => k_is)
    (case k_is_parcel => k_is)
    (case a_is_deed => k_is)
    (case l_is_deed => k_is)
    (case c_is_deed => k_is)
    (case k_is_deed => k_is)
    (case a_number_of => k_is)
    (case l_number_of => k_is)
    (case c_number_of => k_is)
    (case k_number_of => k_is)
    (case a_deed_of => k_is)
    (case l_deed_of => k_is)
    (case c_deed_of => k_is)
    (case k_deed_of => k_is)
    (case a_read => k_is)
    (case l_read => k_is)
    (case c_read => k_is)
    (case k_read => k_is)
    (case a_law_text => k_is)
    (case l_law_text => k_is)
    (case c_law_text => k_is)
    (case k_law_text => k_is)
    (case a_law_steps => k_is)
    (case l_law_steps => k_is)
    (case c_law_steps => k_is)
    (case k_law_steps => k_is)
    (case a_law_figures => k_is)
    (case l_law_figures => k_is)
    (case c_law_figures => k_is)
    (case k_law_figures => k_is)
    (case a_law_read => k_is)
    (case l_law_read => k_is)
    (case c_law_read => k_is)
    (case k_law_read => k_is)
    (case a_law_spoilt => k_is)
    (case l_law_spoilt => k_is)
    (case c_law_spoilt => k_is)
    (case k_law_spoilt => k_is)
    (case a_law_word => k_is)
    (case l_law_word => k_is)
    (case c_law_word => k_is)
    (case k_law_word => k_is)
    (case a_law => k_is)
    (case l_law => k_is)
    (case c_law => k_is)
    (case k_law => k_is)
    (case z_isinstance => k_is)
    (case z_bool => k_is)
    (case z_int => k_is)
    (case z_tuple => k_is)
    (case z_len => k_is)
    (case z_all => k_is)
    (case z_any => k_is)
    (case z_max => k_is)
    (case z_divmod => k_is)
    (case z_enumerate => k_is)
    (case z_sorted => k_is)
    (case z_list => k_is)
    (case z_range => k_is)
    (case z_abs => k_is)
    (case z_str => k_is)
    (case z_super => k_is)
    (case z_ValueError => k_is)
    (case v_MOST_DEEDS => k_is)
    (case v_FIGURES => k_is)
    (case v_PARTS => k_is)
    (case l_PARTS => k_is)
    (case m_PARTS => exact ⟨_, _, _, _, _, _, _, rfl⟩)
    (case q_PARTS => exact ⟨⟨_, _, rfl, rfl⟩, ⟨_, _, rfl, rfl⟩, ⟨_, _, rfl, rfl⟩, ⟨_, _, rfl, rfl⟩, ⟨_, _, rfl, rfl⟩, ⟨_, _, rfl, rfl⟩, ⟨_, _, rfl, rfl⟩, trivial⟩)
    (case y_PARTS => rfl)
    (case p_add => k_is)
    (case p_parcel => k_is)
    (case p_end => k_is)
    (case p_lead => k_is)
    (case p_hush => k_is)
    (case p_wake => k_is)
    (case p_beat => k_is)
    (case a_BadSoft => k_is)
    (case a_BadName => k_is)
    (case a_There => k_is)
    (case a_NoVoice => k_is)
    (case a_BadPace => k_is)
    (case a_BadWait => k_is)
    (case a_BadParcel => k_is)
    (case a_BadEnd => k_is)
    (case a_BadLead => k_is)
    (case a_BadBounds => k_is)
    (case a_BadArrivals => k_is)
    (case a_BadDeed => k_is)
    (case a_BadText => k_is)
    (case a_MixError => k_is)
    (case e_ga => k_is)
    (case e_gg => k_is)
    (case e_sb => k_is)
    (case e_ca => k_is)
    (case e_sp => k_is)
    (case e_tk => k_is)
    (case e_mo => k_is)
    (case it_0 => k_is)
    (case ic_0 => k_is)
    (case is_0 => k_is)
    (case it_1 => k_is)
    (case ic_1 => k_is)
    (case is_1 => k_is)
    (case it_2 => k_is)
    (case ic_2 => k_is)
    (case is_2 => k_is)
    (case it_3 => k_is)
    (case ic_3 => k_is)
    (case is_3 => k_is)
    (case it_4 => k_is)
    (case ic_4 => k_is)
    (case is_4 => k_is)
    (case it_5 => k_is)
    (case ic_5 => k_is)
    (case is_5 => k_is)
    (case it_6 => k_is)
    (case ic_6 => k_is)
    (case is_6 => k_is)
    (case it_7 => k_is)
    (case ic_7 => k_is)
    (case is_7 => k_is)
    (case it_8 => k_is)
    (case ic_8 => k_is)
    (case is_8 => k_is)
    (case it_9 => k_is)
    (case ic_9 => k_is)
    (case is_9 => k_is)
    (case it_10 => k_is)
    (case ic_10 => k_is)
    (case is_10 => k_is)
    (case it_11 => k_is)
    (case ic_11 => k_is)
    (case is_11 => k_is)
    (case it_M => k_is)
    (case ic_M => k_is)
    (case is_M => k_is)
    (case ib_M => k_is)
    (case x_clsM => k_is)
    (case x_iM => k_is)
    (case e_hd => k_is)
    (case e_no => k_is)
    (case x_cls => k_is)
    (case x_ve => decide +kernel)
    (case x_sa => k_is)
    (case x_iC => k_is)
    (case x_tC => k_is)
    (case x_kC => k_is)
    (case x_tyC => k_is)
    (case x_subV => k_is)
    (case x_mro => k_is)
    (case x_bm => rfl)
    (case x_opq => k_is)
    (case x_top => decide +kernel)
    (case x_fn => k_is)
    (case x_cd => k_is)
    (case x_cc => k_is)
    (case x_cda => k_is)
    (case x_2 => rfl)
    (case x_file => decide +kernel)
    (case x_line => rfl)
    (case y_code => k_is)
    (case y_11 => rfl)
    (case y_18 => rfl)
    (case y_7 => rfl)
    (case y_9 => rfl)
    (case y_10 => rfl)
    (case y_ne => rfl)
    (case y_nT => rfl)
#print axioms PySem.Challenge.cw_mixserver_k19_texts_refused_holds

