import PyProof.Rows.All
import Wide.All
import OpenK.AllK
import Wide.FinOn
import HandS.ForMost
import HandS.Gcd
import HandS.Wide
import HandS.WideBits
import HandS.IsInst
import HandS.SetKeys
import KE.GoesEnumKw
import HandS.More
import KE.KEqSeq
import HandS.Style
import KE.KDictPairs
import HandS.SetFor
import HandS.Zip
import HandS.Strs
import HandS.Walk
import PySem.Challenge.RW_mixserver_k06_whole_missed_is_what_lacks
set_option Elab.async false
set_option linter.all false
set_option maxRecDepth 100000
set_option maxHeartbeats 1000000
namespace Mx
open PySem L2

/-! ### own defs, methods, classes as bundles -/
structure OwnF (P : Program) (w : World) (K : PySem.W.Frag) (mg : Str → Option Value) (base : Heap) (x : Str) (k : Nat) (ps : List Str) (sp : Sp) : Prop where
  ex : ∃ (f : Addr) (fd : FuncData), FnOk P w K mg base CX0 k f fd ps sp ∧ mg x = some (.ref f) ∧ PySem.W.keepIn K (.ref f) = true ∧ Binds K fd ps []
structure OwnM (P : Program) (w : World) (K : PySem.W.Frag) (mg : Str → Option Value) (base : Heap) (C : Addr) (m : Str) (k : Nat) (ps : List Str) (sp : Sp) : Prop where
  ex : ∃ (f : Addr) (fd : FuncData), FnOk P w K mg base CX0 k f fd ps sp ∧ Cls K C ∧ Meth K C m f ∧ Binds K fd ps []
structure OwnC (P : Program) (w : World) (K : PySem.W.Frag) (mg : Str → Option Value) (base : Heap) (C : Addr) (x : Str) (k : Nat) (ps : List Str) (sp : Sp) : Prop where
  ex : ∃ (f : Addr) (fd : FuncData), FnOk P w K mg base CX0 k f fd ps sp ∧ mg x = some (.ref C) ∧ Mk K C f ∧ Binds K fd ps []
section
variable {X : Cx} {x m : Str} {k : Nat} {ps : List Str} {sp : Sp} {C : Addr} {p pos apos : Pos} {e o : Expr} {es : List Expr} {t : TA} {to : TE}
theorem p_call (G : OwnF X.prog X.w X.K X.mg X.base x k ps sp) (hr : Room k X.A) (ha : PA X (e :: es) t) (hg : Gl X x := by rfl) (hdb : (x == ("__debug__" : Str)) = false := by decide)
    (he : starEach (e :: es) X.env = (false, eval e X.env) :: starEach es X.env := by rfl) (hpl : (backTo pos (starEach es X.env)).any (·.1) = false := by rfl) :
    PE X (.Call (.Name x p) (e :: es) [] pos) (tCall sp [] E0 t) := by
  obtain ⟨f, fd, G, hm, hk, hb⟩ := G.ex
  exact pe_call G hr hg hm hk hb .nil pass0 ha hdb he hpl
theorem p_make (G : OwnC X.prog X.w X.K X.mg X.base C x k ps sp) (hr : Room (k + 1) X.A) (ha : PA X (e :: es) t) (hg : Gl X x := by rfl) (hdb : (x == ("__debug__" : Str)) = false := by decide)
    (he : starEach (e :: es) X.env = (false, eval e X.env) :: starEach es X.env := by rfl) (hpl : (backTo pos (starEach es X.env)).any (·.1) = false := by rfl) :
    PE X (.Call (.Name x p) (e :: es) [] pos) (tMake C sp [] E0 t) := by
  obtain ⟨f, fd, G, hm, hM, hb⟩ := G.ex
  exact pe_make hM G hr hg hm hb .nil pass0 ha hdb he hpl
theorem p_meth {pl : Sem Bool} (G : OwnM X.prog X.w X.K X.mg X.base C m k ps sp) (hr : Room k X.A) (ho : PE X o to) (ha : PA X (e :: es) t)
    (hst : starEach (e :: es) X.env = (false, eval e X.env) :: starEach es X.env := by rfl) (hpl : (backTo pos (starEach es X.env)).any (·.1) = false := by rfl)
    (ht : eval (.Call (.Attribute o m apos) (e :: es) [] pos) X.env = (do
      let ov ← eval o X.env
      standAt apos.atName
      let (f, first) ← holding [ov] (getMethod ov m pl)
      callWith pos f first (backTo pos (starEach (e :: es) X.env)) (backToKw pos (keywordEach [] X.env))) := by rfl) :
    PE X (.Call (.Attribute o m apos) (e :: es) [] pos) (tMeth C m sp [] E0 to t) := by
  obtain ⟨f, fd, G, hc, hm, hb⟩ := G.ex
  exact pe_meth ho hc hm G hr hb .nil pass0 ha hst hpl ht
theorem p_meth0 {pl : Sem Bool} (G : OwnM X.prog X.w X.K X.mg X.base C m k ps sp) (hr : Room k X.A) (ho : PE X o to)
    (ht : eval (.Call (.Attribute o m apos) [] [] pos) X.env = (do
      let ov ← eval o X.env
      standAt apos.atName
      let (f, first) ← holding [ov] (getMethod ov m pl)
      callWith pos f first (backTo pos (starEach [] X.env)) (backToKw pos (keywordEach [] X.env))) := by rfl) :
    PE X (.Call (.Attribute o m apos) [] [] pos) (tMeth C m sp [] E0 to tNil) := by
  obtain ⟨f, fd, G, hc, hm, hb⟩ := G.ex
  exact pe_meth0 ho hc hm G hr hb .nil pass0 ht
end

/-! ### o.f as a target in a tuple of targets -/
def gFld (K : PySem.W.Frag) (to : TE) (f : Str) : TG := fun y σ H Q => to σ H fun x H2 => ∃ a C dx fs, x = .ref a ∧ H2 a = some (.ins C dx fs) ∧ Cls K C ∧ NoAttr K C f ∧ fs.length < 1000 ∧ Q σ (upd H2 a (.ins C dx (putF f y fs)))
theorem pg_fld {X : Cx} {o : Expr} {to : TE} {f : Str} {pos : Pos} (ho : PE X o to)
    (ha : ∀ v, assign (.Attribute o f pos) X.env v = (do
      let ov ← holding [v] (eval o X.env)
      standAt pos.atName
      holding [v, ov] (setAttr ov f v)
      release [v, ov] []) := by intro _; rfl) : PG X (.Attribute o f pos) (gFld X.K to f) := by
  refine ⟨fun pins s σ H v u Q I r h => ?_⟩
  rw [ha]
  refine PySem.wpAny_bind (PySem.wpAny_holding (thn (ho.run pins s σ H _ I h) fun ov s1 ⟨x, H1, I1, r1, a, C, dx, fs, ex, ea, c, n, l, q⟩ => ?_))
  subst ex
  obtain rfl : ov = Value.ref a := r1
  exact PySem.wpAny_bind (PySem.wpAny_standAt (PySem.wpAny_bind (PySem.wpAny_holding (setattr_ok I1 ea c n l r fun s3 I3 => PySem.wpAny_release ⟨σ, _, I3, q⟩))))

/-! ### fields -/
theorem lk_eq {k : Str} {v : V} {r : List (Str × V)} : List.lookup k ((k, v) :: r) = some v := by
  simp [List.lookup]
theorem lk_ne {k j : Str} {v : V} {r : List (Str × V)} (h : (k == j) = false) : List.lookup k ((j, v) :: r) = List.lookup k r := by
  simp [List.lookup, h]
theorem pf_eq {k : Str} {v u : V} {r : List (Str × V)} : putF k v ((k, u) :: r) = (k, v) :: r := by
  show (if k = k then _ else _) = _
  rw [if_pos rfl]
theorem pf_ne {k j : Str} {v u : V} {r : List (Str × V)} (h : (k == j) = false) : putF k v ((j, u) :: r) = (j, u) :: putF k v r := by
  have h' : ¬ j = k := by
    intro e
    subst e
    simp at h
  show (if j = k then _ else _) = _
  rw [if_neg h']

/-! ### what stays -/
/-- all tracked things stand but those in F; tuples stand always -/
structure Stp (F : List Addr) (H H' : Hp) : Prop where
  keep : ∀ b o, H b = some o → b ∉ F → H' b = some o
  tup : ∀ b xs, H b = some (.tup xs) → H' b = some (.tup xs)
theorem Stp.refl {H : Hp} : Stp [] H H := ⟨fun _ _ h _ => h, fun _ _ h => h⟩
theorem Stp.of {H H' : Hp} (h : Same H H') : Stp [] H H' := ⟨fun b o e _ => h b o e, fun b xs e => h b _ e⟩
theorem Stp.same {H H' : Hp} (h : Stp [] H H') : Same H H' := fun b o e => h.keep b o e (by simp)
theorem Stp.trans {F G : List Addr} {H H1 H2 : Hp} (a : Stp F H H1) (b : Stp G H1 H2) : Stp (F ++ G) H H2 :=
  ⟨fun c o e n => b.keep c o (a.keep c o e fun z => n (List.mem_append_left _ z)) fun z => n (List.mem_append_right _ z), fun c xs e => b.tup c xs (a.tup c xs e)⟩
theorem Stp.sub {F G : List Addr} {H H' : Hp} (a : Stp F H H') (s : ∀ b ∈ F, b ∈ G) : Stp G H H' := ⟨fun c o e n => a.keep c o e fun z => n (s c z), a.tup⟩
/-- what H does not know may change -/
theorem Stp.subN {F G : List Addr} {H H' : Hp} (a : Stp F H H') (s : ∀ b ∈ F, b ∈ G ∨ H b = none) : Stp G H H' :=
  ⟨fun c o e n => a.keep c o e fun z => (s c z).elim n (fun q => by rw [e] at q; cases q), a.tup⟩
theorem Stp.new {H : Hp} {p : Addr} {o : HO} (h : H p = none) : Stp [] H (upd H p o) := .of fun b u e => by rw [upd_ne (ne_of_none e h)]; exact e
theorem Stp.put {H : Hp} {p : Addr} {o u : HO} (h : H p = some u) (n : ∀ xs, u ≠ .tup xs) : Stp [p] H (upd H p o) :=
  ⟨fun b x e q => by rw [upd_ne (by simpa using q)]; exact e, fun b xs e => by rw [upd_ne (ne_of e h (fun z => n xs z.symm))]; exact e⟩
theorem Stp.free {F : List Addr} {H H' : Hp} (a : Stp F H H') {p : Addr} (h : H' p = none) (n : p ∉ F) : H p = none := by
  cases q : H p with
  | none => rfl
  | some o =>
    rw [a.keep p o q n] at h
    cases h

/-! ### tuples that are read -/
def TupAt (K : PySem.W.Frag) (H : Hp) (a : Addr) (xs : List V) : Prop := H a = some (.tup xs) ∨ ∀ H' : Hp, SqT K H' a xs
theorem TupAt.sq {K : PySem.W.Frag} {H : Hp} {a : Addr} {xs : List V} (h : TupAt K H a xs) : SqT K H a xs := h.elim (fun q => .inl (.inl q)) fun q => q H
theorem TupAt.st {K : PySem.W.Frag} {F : List Addr} {H H' : Hp} {a : Addr} {xs : List V} (h : TupAt K H a xs) (s : Stp F H H') : TupAt K H' a xs := h.elim (fun q => .inl (s.tup _ _ q)) .inr

/-! ### fractions -/
/-- v is the fraction q, a tuple in lowest terms -/
def IsQ (K : PySem.W.Frag) (H : Hp) (v : V) (q : Rat) : Prop := ∃ a, v = .ref a ∧ TupAt K H a [.int q.num, .int (q.den : Int)]
theorem IsQ.st {K : PySem.W.Frag} {F : List Addr} {H H' : Hp} {v : V} {q : Rat} (h : IsQ K H v q) (s : Stp F H H') : IsQ K H' v q := by
  obtain ⟨a, e, t⟩ := h
  exact ⟨a, e, t.st s⟩
/-- so many bits -/
structure Rb (n : Nat) (q : Rat) : Prop where
  num : q.num.natAbs < 2 ^ n
  den : q.den < 2 ^ n
theorem Rb.mono {n m : Nat} {q : Rat} (h : Rb n q) (l : n ≤ m) : Rb m q := by
  have e : 2 ^ n ≤ 2 ^ m := Nat.pow_le_pow_right (by decide) l
  exact ⟨Nat.lt_of_lt_of_le h.num e, Nat.lt_of_lt_of_le h.den e⟩
theorem mk_num (t : Int) (b : Nat) (h : 0 < b) : (mkRat t b).num = t / ((Nat.gcd t.natAbs b : Nat) : Int) := by
  rw [Rat.num_mkRat, if_neg (by omega), Nat.gcd_comm]
theorem mk_den (t : Int) (b : Nat) (h : 0 < b) : (mkRat t b).den = b / Nat.gcd t.natAbs b := by
  rw [Rat.den_mkRat, if_neg (by omega), Nat.gcd_comm]
theorem Rb.of {n : Nat} {t : Int} {b : Nat} (h0 : 0 < b) (ht : t.natAbs < 2 ^ n) (hb : b < 2 ^ n) : Rb n (mkRat t b) := by
  refine ⟨?_, ?_⟩
  · rw [mk_num t b h0]
    refine Nat.lt_of_le_of_lt ?_ ht
    rw [Int.natAbs_ediv_of_dvd (Int.ofNat_dvd_left.mpr (Nat.gcd_dvd_left _ _))]
    exact Nat.div_le_self _ _
  · rw [mk_den t b h0]
    exact Nat.lt_of_le_of_lt (Nat.div_le_self _ _) hb
theorem add_mk (q r : Rat) : mkRat (q.num * r.den + r.num * q.den) (q.den * r.den) = q + r := by
  rw [Rat.add_def, Rat.normalize_eq_mkRat]
theorem mul_mk (q r : Rat) : mkRat (q.num * r.num) (q.den * r.den) = q * r := by
  rw [Rat.mul_def, Rat.normalize_eq_mkRat]
theorem sub_mk (q r : Rat) : mkRat (q.num * r.den - r.num * q.den) (q.den * r.den) = q - r := by
  rw [Rat.sub_eq_add_neg, ← add_mk, Rat.neg_num, Rat.neg_den, Int.neg_mul, ← Int.sub_eq_add_neg]
/-! ### names and texts -/
theorem ofString_inj {a b : String} : (Str.ofString a = Str.ofString b) = (a = b) := by
  refine propext ⟨fun h => ?_, fun h => by rw [h]⟩
  rw [Str.ofString_eq_toList, Str.ofString_eq_toList] at h
  have h1 : a.toList.map Char.toNat = b.toList.map Char.toNat := by simpa using h
  have h2 : a.toList = b.toList := by
    have inj : ∀ (x y : List Char), x.map Char.toNat = y.map Char.toNat → x = y := by
      intro x
      induction x with
      | nil => intro y e; cases y with
        | nil => rfl
        | cons c r => simp at e
      | cons c r ih => intro y e; cases y with
        | nil => simp at e
        | cons d t =>
          simp only [List.map_cons, List.cons.injEq] at e
          rw [ih t e.2]
          have : c = d := by
            apply Char.ext
            apply UInt32.toNat_inj.mp
            exact e.1
          rw [this]
    exact inj _ _ h1
  exact String.toList_inj.mp h2
theorem ofString_beq {a b : String} : (Str.ofString a == Str.ofString b) = decide (a = b) := by
  by_cases h : a = b
  · subst h
    simp
  · have : ¬ Str.ofString a = Str.ofString b := by
      rw [ofString_inj]
      exact h
    simp [this, h]
theorem lk_cons {k j : Str} {v : V} {r : List (Str × V)} : List.lookup k ((j, v) :: r) = if (k == j) = true then some v else List.lookup k r := by
  cases h : k == j
  · rw [lk_ne h]; simp
  · simp [List.lookup, h]
theorem pf_nil {k : Str} {v : V} : putF k v [] = [(k, v)] := rfl
theorem pf_cons {k j : Str} {v u : V} {r : List (Str × V)} : putF k v ((j, u) :: r) = if (k == j) = true then (k, v) :: r else (j, u) :: putF k v r := by
  cases h : k == j
  · rw [pf_ne h]; simp
  · have : k = j := by simpa using h
    subst this
    rw [pf_eq]
    simp
/-! ### what isinstance tells of ints -/
theorem isi_int {K : PySem.W.Frag} {H : Hp} {Q : VK} {n : Int} {T : String} {b : Bool} (h : kitB "int" T = some b) (q : Q (.bl b) H) : rIsi K [.int n, .ty T] H Q := ⟨_, _, _, _, _, rfl, .ty _, .base (.int _), kit_ty h, q⟩
theorem isi_inv {K : PySem.W.Frag} {H : Hp} {Q : VK} {n : Int} {T : String} {b : Bool} (hb : kitB "int" T = some b) : rIsi K [.int n, .ty T] H Q ↔ Q (.bl b) H := by
  refine ⟨fun h => ?_, isi_int hb⟩
  obtain ⟨x, c, t, u, b', e, hc, ht, hk, q⟩ := h
  simp only [List.cons.injEq, and_true] at e
  obtain ⟨rfl, rfl⟩ := e
  cases hc
  cases ht with
  | base h =>
    cases h
    have : PySem.W.kitOne K (.type "int") (.type T) = some b := kit_ty hb
    rw [this] at hk
    cases hk
    exact q
theorem isi_int_bool {K : PySem.W.Frag} {H : Hp} {Q : VK} {n : Int} : rIsi K [.int n, .ty "bool"] H Q ↔ Q (.bl false) H := isi_inv (by decide +kernel)
theorem isi_int_int {K : PySem.W.Frag} {H : Hp} {Q : VK} {n : Int} : rIsi K [.int n, .ty "int"] H Q ↔ Q (.bl true) H := isi_inv (by decide +kernel)
theorem isi_int_tuple {K : PySem.W.Frag} {H : Hp} {Q : VK} {n : Int} : rIsi K [.int n, .ty "tuple"] H Q ↔ Q (.bl false) H := isi_inv (by decide +kernel)
theorem isi_int_list {K : PySem.W.Frag} {H : Hp} {Q : VK} {n : Int} : rIsi K [.int n, .ty "list"] H Q ↔ Q (.bl false) H := isi_inv (by decide +kernel)
theorem isi_int_str {K : PySem.W.Frag} {H : Hp} {Q : VK} {n : Int} : rIsi K [.int n, .ty "str"] H Q ↔ Q (.bl false) H := isi_inv (by decide +kernel)
theorem scal_int {i j : Int} : scal (.int i) (.int j) = true := rfl
theorem scal_str {i j : Str} : scal (.str i) (.str j) = true := rfl
theorem scal_bl {i j : Bool} : scal (.bl i) (.bl j) = true := rfl
theorem sz_le {n : Nat} (h : n ≤ 100000) : n ≤ sizeLine := Nat.le_trans h (by decide)
theorem sz2 : (2 ≤ sizeLine) = True := eq_true (by decide)
theorem sz1 : (1 ≤ sizeLine) = True := eq_true (by decide)
theorem q0n : (0 : Rat).num = 0 := rfl
theorem q0d : ((0 : Rat).den : Int) = 1 := rfl

/-! ### a list comprehension whose element makes nothing -/
theorem wipe1 {σ : L2.St} {i : Nat} {x : Option V} : wipe ((wipe σ [i]).set i x) [i] = wipe σ [i] := by
  show ((σ.set i none).set i x).set i none = σ.set i none
  rw [List.set_set, List.set_set]
theorem stp_acc {H0 H : Hp} {D : Addr} {o : HO} (h : Stp [] H0 H) (hD : H0 D = none) (hn : ∀ xs, H D ≠ some (.tup xs)) : Stp [] H0 (upd H D o) := .of fun b u e => by
  rw [upd_ne (ne_of_none e hD)]
  exact h.same b u e
theorem lc_pure {K : PySem.W.Frag} {a : Addr} {xs : List V} {i : Nat} {te : TE} {σ : L2.St} {H0 H9 : Hp} {Q : VK} (f : V → V) (hx : SqL K H0 a xs) (hl : xs.length ≤ 100000)
    (he : ∀ x ∈ xs, ∀ (H : Hp) (Q' : VK), Stp [] H0 H → Q' (f x) H → te ((wipe σ [i]).set i (some x)) H Q')
    (k : ∀ D H', H0 D = none → Stp [] H0 H' → H' D = some (.lst (xs.map f)) → Q (.ref D) H') :
    tLc (fun _ _ R => R (Itl K a) H0) (gName i) tYes te [i] σ H9 Q := by
  intro D hD
  refine lc_list (K := K) (a := a) (xs := xs) (fun j H => Stp [] H0 H ∧ H D = some (.lst ((xs.take j).map f))) ⟨Stp.new hD, upd_same⟩ (fun j H _ h => ?_) (fun j x H hj h => ?_) (fun H h => ?_)
  · rcases hx with (q | ⟨o, q⟩) | q
    · exact .inl (.inl (h.1.same _ _ q))
    · exact .inl (.inr ⟨o, h.1.same _ _ q⟩)
    · exact .inr q
  · refine ⟨wipe1, ?_⟩
    simp only [tYes, reduceIte]
    have hm : x ∈ xs := List.mem_of_getElem? hj
    have hjl : j < xs.length := (List.getElem?_eq_some_iff.mp hj).1
    refine he x hm H _ h.1 ⟨(xs.take j).map f, h.2, ?_, ?_, ?_⟩
    · rw [List.length_map, List.length_take]
      exact Nat.lt_of_le_of_lt (Nat.min_le_right _ _) (Nat.lt_of_le_of_lt hl (by decide))
    · exact stp_acc h.1 hD (by rw [h.2]; intro ys z; cases z)
    · rw [upd_same, List.take_add_one, hj]
      simp
  · have h2 := h.2
    rw [List.take_length] at h2
    exact k D H hD h.1 h2

/-! ### o.f = e and o.f op= e, the heap behind told by what stands in it -/
def sFldA (K : PySem.W.Frag) (ta tv : TE) (f : Str) : TS := fun D σ H => tv σ H fun y H1 => ta σ H1 fun x H2 => ∃ a C dx fs, x = .ref a ∧ H2 a = some (.ins C dx fs) ∧ Cls K C ∧ NoAttr K C f ∧ fs.length < 1000 ∧
  ∀ H3, H3 a = some (.ins C dx (putF f y fs)) → Stp [a] H2 H3 → D.nx σ H3
def sFldAugA (K : PySem.W.Frag) (ta tv : TE) (rd : V → V → Hp → VK → Prop) (f : Str) : TS := fun D σ H => ta σ H fun x H1 => ∃ a C dx fs v, x = .ref a ∧ H1 a = some (.ins C dx fs) ∧ Cls K C ∧ NoAttr K C f ∧ fs.lookup f = some v ∧
  tv σ H1 fun y H2 => rd v y H2 fun z H3 => ∃ dx' fs', H3 a = some (.ins C dx' fs') ∧ fs'.length < 1000 ∧ ∀ H4, H4 a = some (.ins C dx' (putF f z fs')) → Stp [a] H3 H4 → D.nx σ H4
section
variable {X : Cx} {o value : Expr} {ta tv : TE} {f : Str} {pos pos' tpos : Pos}
theorem stp_ins {H : Hp} {a C dx : Addr} {fs gs : List (Str × V)} (h : H a = some (.ins C dx fs)) : Stp [a] H (upd H a (.ins C dx gs)) := Stp.put h fun xs z => nomatch z
theorem ps_fldA (ha : PE X o ta) (hv : PE X value tv) (hs : swapsWith value (some (.Attribute o f pos')) pos.line X.env = pure false := by rfl) : PS X (.Assign [.Attribute o f pos'] value pos) (sFldA X.K ta tv f) :=
  ⟨fun pins s σ H D I h => plainObj_wpAny_Assign_Attribute (thn (hv.run pins s σ H _ I h) fun u s1 ⟨y, H1, I1, ry, q⟩ => thn (ha.run pins s1 σ H1 _ I1 q) fun ov s2 ⟨x, H2, I2, rx, a, C, dx, fs, ex, ea, c, n, l, q2⟩ => by
    subst ex
    obtain rfl : ov = Value.ref a := rx
    exact setattr_ok I2 ea c n l ry fun s3 I3 => ⟨σ, _, I3, q2 _ upd_same (stp_ins ea)⟩) hs⟩
theorem ps_fldaugA {op : Operator} {rd : V → V → Hp → VK → Prop} (ha : PE X o ta) (hv : PE X value tv) (hop : InOp X op rd) : PS X (.AugAssign (.Attribute o f tpos) op value pos) (sFldAugA X.K ta tv rd f) :=
  ⟨fun pins s σ H D I h => wpAny_AugAssign_AttributeAny (thn (ha.run pins s σ H _ I h) fun ov s1 ⟨x, H1, I1, rx, a, C, dx, fs, v, ex, ea, c, n, l, q⟩ => by
    subst ex
    obtain rfl : ov = Value.ref a := rx
    refine getattr_ok I1 ea c n l fun u s2 I2 ru => thn (hv.run pins s2 σ H1 _ I2 q) fun u3 s3 ⟨y, H2, I3, ry, q3⟩ => thn (hop pins s3 σ H2 v y u u3 _ I3 ru ry q3) fun u4 s4 ⟨z, H3, I4, rz, dx', fs', ea', l', q4⟩ => ?_
    exact setattr_ok I4 ea' c n l' rz fun s5 I5 => ⟨σ, _, I5, q4 _ upd_same (stp_ins ea')⟩)⟩
end

theorem filt_take {α : Type} (p : α → Bool) (xs : List α) (j : Nat) {x : α} (h : xs[j]? = some x) : (xs.take (j + 1)).filter p = (xs.take j).filter p ++ if p x = true then [x] else [] := by
  rw [List.take_add_one, h, List.filter_append]
  congr 1
  show [x].filter p = _
  rw [List.filter_cons, List.filter_nil]
theorem lc_pureF {K : PySem.W.Frag} {a : Addr} {xs : List V} {i : Nat} {tt : TT} {te : TE} {σ : L2.St} {H0 H9 : Hp} {Q : VK} (p : V → Bool) (hx : SqL K H0 a xs) (hl : xs.length ≤ 100000)
    (ht : ∀ x ∈ xs, ∀ (H : Hp) (Q' : Bool → Hp → Prop), Stp [] H0 H → Q' (p x) H → tt ((wipe σ [i]).set i (some x)) H Q')
    (he : ∀ x ∈ xs, p x = true → ∀ (H : Hp) (Q' : VK), Stp [] H0 H → Q' x H → te ((wipe σ [i]).set i (some x)) H Q')
    (k : ∀ D H', H0 D = none → Stp [] H0 H' → H' D = some (.lst (xs.filter p)) → Q (.ref D) H') :
    tLc (fun _ _ R => R (Itl K a) H0) (gName i) tt te [i] σ H9 Q := by
  intro D hD
  refine lc_list (K := K) (a := a) (xs := xs) (fun j H => Stp [] H0 H ∧ H D = some (.lst ((xs.take j).filter p))) ⟨Stp.new hD, upd_same⟩ (fun j H _ h => ?_) (fun j x H hj h => ?_) (fun H h => ?_)
  · rcases hx with (q | ⟨o, q⟩) | q
    · exact .inl (.inl (h.1.same _ _ q))
    · exact .inl (.inr ⟨o, h.1.same _ _ q⟩)
    · exact .inr q
  · refine ⟨wipe1, ?_⟩
    have hm : x ∈ xs := List.mem_of_getElem? hj
    have ef := filt_take p xs j hj
    refine ht x hm H _ h.1 ?_
    cases e : p x with
    | false =>
      rw [if_neg (by simp)]
      rw [e] at ef
      refine ⟨h.1, ?_⟩
      rw [ef, h.2]
      simp
    | true =>
      rw [if_pos rfl]
      rw [e] at ef
      refine he x hm e H _ h.1 ⟨(xs.take j).filter p, h.2, ?_, ?_, ?_⟩
      · exact Nat.lt_of_le_of_lt (Nat.le_trans (List.length_filter_le _ _) (by rw [List.length_take]; exact Nat.le_trans (Nat.min_le_right _ _) hl)) (by decide)
      · exact stp_acc h.1 hD (by rw [h.2]; intro ys z; cases z)
      · rw [upd_same, ef]
        rfl
  · have h2 := h.2
    rw [List.take_length] at h2
    exact k D H hD h.1 h2

theorem lc_pureFv {K : PySem.W.Frag} {a : Addr} {xs : List V} {i j : Nat} {tt : TT} {te : TE} {σ : L2.St} {H0 : Hp} {Q : VK} (p : V → Bool) (hj : σ[j]? = some (some (.ref a))) (hx : SqL K H0 a xs) (hl : xs.length ≤ 100000)
    (ht : ∀ x ∈ xs, ∀ (H : Hp) (Q' : Bool → Hp → Prop), Stp [] H0 H → Q' (p x) H → tt ((wipe σ [i]).set i (some x)) H Q')
    (he : ∀ x ∈ xs, p x = true → ∀ (H : Hp) (Q' : VK), Stp [] H0 H → Q' x H → te ((wipe σ [i]).set i (some x)) H Q')
    (k : ∀ D H', H0 D = none → Stp [] H0 H' → H' D = some (.lst (xs.filter p)) → Q (.ref D) H') :
    tLc (iList K (tVar j)) (gName i) tt te [i] σ H0 Q := ⟨_, hj, a, rfl, ⟨_, hx⟩, lc_pureF (H9 := H0) (Q := Q) p hx hl ht he k⟩
theorem lc_pureV {K : PySem.W.Frag} {a : Addr} {xs : List V} {i j : Nat} {te : TE} {σ : L2.St} {H0 : Hp} {Q : VK} (f : V → V) (hj : σ[j]? = some (some (.ref a))) (hx : SqL K H0 a xs) (hl : xs.length ≤ 100000)
    (he : ∀ x ∈ xs, ∀ (H : Hp) (Q' : VK), Stp [] H0 H → Q' (f x) H → te ((wipe σ [i]).set i (some x)) H Q')
    (k : ∀ D H', H0 D = none → Stp [] H0 H' → H' D = some (.lst (xs.map f)) → Q (.ref D) H') :
    tLc (iList K (tVar j)) (gName i) tYes te [i] σ H0 Q := ⟨_, hj, a, rfl, ⟨_, hx⟩, lc_pure (H9 := H0) (Q := Q) f hx hl he k⟩
theorem lc_two {K : PySem.W.Frag} {a : Addr} {x y u w : V} {i : Nat} {te : TE} {σ : L2.St} {H0 H9 : Hp} {Q : VK} (hx : H0 a = some (.lst [x, y]))
    (h1 : ∀ (H : Hp) (Q' : VK), Stp [] H0 H → Q' u H → te ((wipe σ [i]).set i (some x)) H Q') (h2 : ∀ (H : Hp) (Q' : VK), Stp [] H0 H → Q' w H → te ((wipe σ [i]).set i (some y)) H Q')
    (k : ∀ D H', H0 D = none → Stp [] H0 H' → H' D = some (.lst [u, w]) → Q (.ref D) H') :
    tLc (fun _ _ R => R (Itl K a) H0) (gName i) tYes te [i] σ H9 Q := by
  intro D hD
  refine lc_list (K := K) (a := a) (xs := [x, y]) (fun j H => Stp [] H0 H ∧ H D = some (.lst (([u, w] : List V).take j))) ⟨Stp.new hD, upd_same⟩ (fun j H _ h => .inl (.inl (h.1.same _ _ hx))) (fun j z H hj h => ?_) (fun H h => ?_)
  · refine ⟨wipe1, ?_⟩
    simp only [tYes, reduceIte]
    match j, hj with
    | 0, hj =>
      cases Option.some.inj hj
      refine h1 H _ h.1 ⟨[], h.2, by decide, stp_acc h.1 hD (by rw [h.2]; intro ys z; cases z), ?_⟩
      rw [upd_same]
      rfl
    | 1, hj =>
      cases Option.some.inj hj
      refine h2 H _ h.1 ⟨[u], h.2, by show 1 < sizeLine; decide, stp_acc h.1 hD (by rw [h.2]; intro ys z; cases z), ?_⟩
      rw [upd_same]
      rfl
  · exact k D H hD h.1 h.2
theorem lc_twoM {K : PySem.W.Frag} {i : Nat} {tl te : TE} {σ : L2.St} {H : Hp} {Q : VK} (Pr : Addr → Hp → Prop) (htl : ∀ R : VK, (∀ p H', Pr p H' → R (.ref p) H') → tl σ H R)
    (h : ∀ p H', Pr p H' → ∃ x y u w : V, H' p = some (.lst [x, y]) ∧ (∀ (H2 : Hp) (Q' : VK), Stp [] H' H2 → Q' u H2 → te ((wipe σ [i]).set i (some x)) H2 Q') ∧ (∀ (H2 : Hp) (Q' : VK), Stp [] H' H2 → Q' w H2 → te ((wipe σ [i]).set i (some y)) H2 Q') ∧
      ∀ D H2, H' D = none → Stp [] H' H2 → H2 D = some (.lst [u, w]) → Q (.ref D) H2) :
    tLc (iList K tl) (gName i) tYes te [i] σ H Q := htl _ fun p H' hp => by
  obtain ⟨x, y, u, w, hl, h1, h2, k⟩ := h p H' hp
  exact ⟨p, rfl, ⟨_, .inl (.inl hl)⟩, lc_two (H9 := H) (Q := Q) hl h1 h2 k⟩
theorem lc_pureR {i j : Nat} {n : Int} {te : TE} {σ : L2.St} {H0 : Hp} {Q : VK} (f : Nat → V) (hj : σ[j]? = some (some (.int n))) (n0 : 0 ≤ n) (n1 : n ≤ 100000)
    (he : ∀ k : Nat, k < n.toNat → ∀ (H : Hp) (Q' : VK), Stp [] H0 H → Q' (f k) H → te ((wipe σ [i]).set i (some (.int (0 + (k : Int))))) H Q')
    (k : ∀ D H', H0 D = none → Stp [] H0 H' → H' D = some (.lst ((List.range n.toNat).map f)) → Q (.ref D) H') :
    tLc (iRng1 (tCons (tVar j) tNil)) (gName i) tYes te [i] σ H0 Q := by
  refine ⟨_, hj, n, rfl, by omega, by omega, fun D hD => lc_range (lo := 0) (n := n.toNat) (fun m H => Stp [] H0 H ∧ H D = some (.lst ((List.range m).map f))) ⟨Stp.new hD, upd_same⟩ (fun m H hm h => ?_) (fun H h => k D H hD h.1 h.2)⟩
  refine ⟨wipe1, ?_⟩
  simp only [tYes, reduceIte]
  refine he m hm H _ h.1 ⟨(List.range m).map f, h.2, ?_, ?_, ?_⟩
  · rw [List.length_map, List.length_range]
    exact Nat.lt_of_le_of_lt (show m ≤ 100000 by omega) (by decide)
  · exact stp_acc h.1 hD (by rw [h.2]; intro ys z; cases z)
  · rw [upd_same, List.range_succ, List.map_append]
    rfl
/-! the same over a tuple -/
theorem lc_pureT {K : PySem.W.Frag} {a : Addr} {xs : List V} {i : Nat} {te : TE} {σ : L2.St} {H0 H9 : Hp} {Q : VK} (f : V → V) (hx : H0 a = some (.tup xs)) (hl : xs.length ≤ 100000)
    (he : ∀ x ∈ xs, ∀ (H : Hp) (Q' : VK), Stp [] H0 H → Q' (f x) H → te ((wipe σ [i]).set i (some x)) H Q')
    (k : ∀ D H', H0 D = none → Stp [] H0 H' → H' D = some (.lst (xs.map f)) → Q (.ref D) H') :
    tLc (fun _ _ R => R (Itt K a) H0) (gName i) tYes te [i] σ H9 Q := by
  intro D hD
  refine lc_tup (K := K) (a := a) (xs := xs) (fun j H => Stp [] H0 H ∧ H D = some (.lst ((xs.take j).map f))) ⟨Stp.new hD, upd_same⟩ (fun j H _ h => .inl (.inl (h.1.same _ _ hx))) (fun j x H hj h => ?_) (fun H h => ?_)
  · refine ⟨wipe1, ?_⟩
    simp only [tYes, reduceIte]
    have hm : x ∈ xs := List.mem_of_getElem? hj
    refine he x hm H _ h.1 ⟨(xs.take j).map f, h.2, ?_, ?_, ?_⟩
    · rw [List.length_map, List.length_take]
      exact Nat.lt_of_le_of_lt (Nat.min_le_right _ _) (Nat.lt_of_le_of_lt hl (by decide))
    · exact stp_acc h.1 hD (by rw [h.2]; intro ys z; cases z)
    · rw [upd_same, List.take_add_one, hj]
      simp
  · have h2 := h.2
    rw [List.take_length] at h2
    exact k D H hD h.1 h2
theorem isi_tup {K : PySem.W.Frag} {H : Hp} {Q : VK} {t : Addr} {xs : List V} (h : H t = some (.tup xs)) (q : Q (.bl true) H) : rIsi K [.ref t, .ty "tuple"] H Q := ⟨_, _, _, _, _, rfl, .ty _, .base (.tup h), kit_ty (by decide +kernel), q⟩
theorem seq_st {K : PySem.W.Frag} {F : List Addr} {H H' : Hp} {a : Addr} {xs : List V} (h : SqL K H a xs) (s : Stp F H H') (n : a ∉ F) : SqL K H' a xs := by
  rcases h with (q | ⟨o, q⟩) | q
  · exact .inl (.inl (s.keep _ _ q n))
  · exact .inl (.inr ⟨o, s.keep _ _ q n⟩)
  · exact .inr q
end Mx

namespace Mx
open PySem L2 PyProof.Rows
/-! ### for i, x in enumerate(xs, start=z) -/
/-- the items of the list at a, each in a new pair with its number, from z on -/
def Itn (K : PySem.W.Frag) (a : Addr) (z : Int) : It where
  go := fun i H => ∃ (xs : List V) (x : V), SqL K H a xs ∧ xs[i]? = some x
  yld := fun i H v H' => ∃ T x, v = .ref T ∧ H T = none ∧ H' = upd H T (.tup [.int (z + (i : Nat)), x]) ∧ ∀ xs, SqL K H a xs → xs[i]? = some x
  stop := fun i H => ∃ xs : List V, SqL K H a xs ∧ xs.length = i
theorem turn_enumS {P : Program} {w : World} {K : PySem.W.Frag} {elts : List Expr} {kk : Nat} {tpos : Pos} (a e it : Addr) (z : Int) :
    Turn P w K (.Tuple elts kk tpos) (Itn K a z) [e, it] e (fun i h => (∃ old, IsEnum h e it (z + ((i : Nat) : Int)) old) ∧ h.IsListIter it a i ∧ e ≠ it ∧ a ≠ it ∧ a ≠ e) where
  mem := List.mem_cons_self
  obj := by
    rintro i h ⟨⟨old, he⟩, ⟨o, ho, hc, hd⟩, _⟩ b hb
    rcases List.mem_cons.mp hb with q | q
    · subst q
      exact ⟨_, he, fun v q => nomatch q⟩
    · rw [List.mem_singleton.mp q]
      exact ⟨o, ho, fun v q => by rw [hd] at q; cases q⟩
  keep := by
    rintro i h h' ⟨⟨old, he⟩, hi, hne⟩ k
    exact ⟨⟨old, k e List.mem_cons_self _ he⟩, hi.at fun o q => k it (List.mem_cons_of_mem _ List.mem_cons_self) o q, hne⟩
  item := by
    intro X hP hw hK hc i pins s σ H E I hf st hg
    subst hP hw hK
    obtain ⟨⟨old, he⟩, hit, hne, hai, hae⟩ := st
    obtain ⟨xs, x, hq, hx⟩ := hg
    obtain ⟨its, rv, p, hz⟩ := I.list hq
    obtain ⟨u, hu, ru⟩ := rv.get hx
    have hel : e < s.heap.objs.size := Heap.lt_size he
    have hil : it < s.heap.objs.size := by
      obtain ⟨_, q, _⟩ := hit
      exact Heap.lt_size q
    have hlt : i < its.length := (List.getElem?_eq_some_iff.mp hu).1
    have D := Draws.list (prog := X.prog) (w := X.w) (A := X.A.in1) (I.ok.hd hc) it a hai its.toArray
    refine wpAny_pyNext_enum_itemC D he ⟨hit, p.isList⟩ (by simpa using hlt) hne (by simp [hne, Ne.symm hae]) fun u' h' tk hu' ho hst hT hsz hk => ?_
    have hu2 : its[i]? = some u' := by simpa using hu'
    rw [hu] at hu2
    cases hu2
    refine ⟨_, rfl, wpAny_letOwnedTupleGo_enum (s := { s with heap := h', toks := tk + 1 }) ho fun h'' he' sb => ?_⟩
    have hT2 : h''.get? s.heap.objs.size = some { cls := .type "tuple", data := .seq #[.int (z + (i : Nat)) tk, u] } := (sb.2 _ (Nat.ne_of_gt hel)).trans hT
    have new : ObjOk X.prog X.w (upd H s.heap.objs.size (.tup [.int (z + (i : Nat)), x])) h'' s.heap.objs.size (.tup [.int (z + (i : Nat)), x]) :=
      ⟨by show 2 ≤ sizeLine; decide, [.int (z + (i : Nat)) tk, u], .cons ⟨_, rfl⟩ (.cons ru .nil), ⟨_, hT2, rfl, _, rfl⟩⟩
    have I1 : Inv X pins σ (upd H s.heap.objs.size (.tup [.int (z + (i : Nat)), x])) { s with heap := h'', toks := tk + 1 } :=
      I.turnedNew (ch := [e, it]) (fun b ob hb q => (sb.2 b (fun v => hb (by simp [v]))).trans (hk b ob (fun v => hb (by simp [v])) (fun v => hb (by simp [v])) q)) hf (Nat.le_refl _) new
    refine ⟨.ref s.heap.objs.size, _, I1, rfl, ⟨_, x, rfl, I.hok.fresh (Nat.le_refl _), rfl, fun ys hy => by rw [I.list_inj hy hq]; exact hx⟩, ⟨⟨u, ?_⟩, hst.1.at fun o q => (sb.2 it (Ne.symm hne)).trans q, hne, hai, hae⟩, fun b hb => ?_⟩
    · have e1 : z + ((i + 1 : Nat) : Int) = z + (i : Int) + 1 := by omega
      rw [e1]
      exact he'
    · have hb' : b < s.heap.objs.size := by
        rcases List.mem_cons.mp hb with q | q
        · rw [q]; exact hel
        · rw [List.mem_singleton.mp q]; exact hil
      rw [upd_ne (Nat.ne_of_lt hb')]
      exact (hf b hb).1
  done := by
    intro X hP hw hK hc i pins s σ H E I hf st hg
    subst hP hw hK
    obtain ⟨⟨old, he⟩, hit, hne, hai, hae⟩ := st
    obtain ⟨xs, hq, hx⟩ := hg
    obtain ⟨its, rv, p, hz⟩ := I.list hq
    obtain ⟨f0, f1, f2, f3, f4, f5⟩ := hf it (List.mem_cons_of_mem _ List.mem_cons_self)
    have hl := rv.length
    have D := Draws.list (prog := X.prog) (w := X.w) (A := X.A.in1) (I.ok.hd hc) it a hai its.toArray
    have hn : i = its.toArray.size := by
      show i = its.length
      omega
    exact wpAny_pyNext_enum_endD D he (by rw [← hn]; exact ⟨hit, p.isList⟩) fun h' eb => ⟨rfl, I.turned (t' := s.toks) (fun b o hb q => eb b o hb q) f0 f1 f3 f4 f5⟩
  self := by
    rintro A i s Q E ⟨⟨_, he⟩, _⟩ h
    exact wpAny_pyIter_enum he h
/-! ### the call with its start by name -/
theorem callWith_tyKw {M : Model} {A : Around} {E : Value → Shared → Prop} {s : Shared} {env : Env} {pos : Pos} {T : String} {e : Expr} {kw : Keyword} {Q : Value → Shared → Prop}
    (h : wpAny M A (spliced (backTo pos (starEach [e] env))) (fun vs s1 => wpAny M A (evalAll ((backToKw pos (keywordEach [kw] env)).map (·.2)))
      (fun kvs s2 => wpAny M A (call (.type T) vs (((backToKw pos (keywordEach [kw] env)).filterMap (·.1)).zip kvs)) Q E s2) E s1) E s)
    (he : backTo pos (starEach [e] env) = (false, eval e env) :: [])
    (hall : (backToKw pos (keywordEach [kw] env)).all (·.1.isSome) = true)
    (hkw : (backToKw pos (keywordEach [kw] env)).any (·.1.isNone) = false) :
    wpAny M A (callWith pos (.type T) [] (backTo pos (starEach [e] env)) (backToKw pos (keywordEach [kw] env))) Q E s := by
  rw [he] at h ⊢
  have h2 := evalArgs_kwB (f := .type T) (Q := fun a s1 => wpAny M A (call (.type T) ([] ++ a.pos) a.kw) Q E s1) hall h
  unfold callWith
  refine wpAny_bind (wpAny_holding (wpAny_mono h2 (fun a s1 h1 => wpAny_bind (wpAny_standAt ?_)) (fun _ _ x => x)))
  simp only [List.any_cons, List.any_nil, hkw, Bool.or_false]
  refine wpAny_bind (wpAny_pure ?_)
  exact wpAny_bind (wpAny_mono h1 (fun r s2 hr => wpAny_bind (wpAny_holding (wpAny_point (wpAny_pure hr)))) (fun _ _ x => x))
def iEnumS (K : PySem.W.Frag) (te tz : TE) : TI := fun σ H R => te σ H fun x H1 => tz σ H1 fun y H2 => ∃ a xs z, x = .ref a ∧ y = .int z ∧ SqL K H2 a xs ∧ -(2 ^ 63) ≤ z ∧ z < 2 ^ 63 ∧ R (Itn K a z) H2
theorem pi_enumS {X : Cx} {e ez : Expr} {te tz : TE} {p pos tpos kp : Pos} {elts : List Expr} {kk : Nat} (hg : Gl X "enumerate") (hm : X.mg "enumerate" = none) (he : PE X e te) (hz : PE X ez tz)
    (hs : starEach [e] X.env = [(false, eval e X.env)] := by rfl)
    (hc : eval (.Call (.Name "enumerate" p) [e] [⟨some "start", ez, kp⟩] pos) X.env = (do
      let f ← eval (.Name "enumerate" p) X.env
      callWith pos f [] (backTo pos (starEach [e] X.env)) (backToKw pos (keywordEach [⟨some "start", ez, kp⟩] X.env))) := by rfl) :
    PI X (.Tuple elts kk tpos) (.Call (.Name "enumerate" p) [e] [⟨some "start", ez, kp⟩] pos) (iEnumS X.K te tz) := by
  refine ⟨fun pins s σ H R I h => ?_⟩
  rw [hc]
  refine wpAny_bind (ld_blt I hg hm boot_enumerate ?_)
  refine callWith_tyKw ?_ (by rw [hs]; rfl) rfl rfl
  rw [hs]
  refine PySem.Calls.spliced_cons (thn (he.run pins s σ H _ I h) fun u s1 ⟨x, H1, I1, r1, q1⟩ => PySem.Calls.spliced_nil ?_)
  refine kws_cons (thn (hz.run pins s1 σ H1 _ I1 q1) fun zu s2 ⟨y, H2, I2, r2, q2⟩ => kws_nil ?_)
  obtain ⟨a, xs, z, ex, ey, hq, hz0, hz1, q⟩ := q2
  subst ex ey
  cases r1
  obtain ⟨t, rfl⟩ := r2
  obtain ⟨its, rv, p', hzz⟩ := I2.list hq
  show wpAny _ _ (call (.type "enumerate") [.ref a] [(Str.ofString "start", .int z t)]) _ _ s2
  refine enum_begins_start (begins_list a its.toArray) p'.isList hz0 hz1 fun h' hen hit hsz hk => wpAny_pyIter_enum hen ?_
  have I3 : Inv X pins σ H2 { s2 with heap := h' } := I2.kept (t' := s2.toks) hk
  have hal : a < s2.heap.objs.size := by
    obtain ⟨o, e, _⟩ := p'.isList
    exact Heap.lt_size e
  refine ⟨s2.heap.objs.size + 1, [s2.heap.objs.size + 1, s2.heap.objs.size], _, _, H2, rfl, I3, turn_enumS a (s2.heap.objs.size + 1) s2.heap.objs.size z,
    ⟨⟨.none, by simpa using hen⟩, ⟨_, hit, rfl, rfl⟩, Nat.succ_ne_self _, Nat.ne_of_lt hal, Nat.ne_of_lt (Nat.lt_succ_of_lt hal)⟩, fun b hb => ?_, q⟩
  have hle : s2.heap.objs.size ≤ b := by
    rcases List.mem_cons.mp hb with v | v
    · rw [v]; exact Nat.le_add_right _ _
    · rw [List.mem_singleton.mp v]; exact Nat.le_refl _
  exact I2.fpOk hle (I2.hok.fresh hle)
/-- such a loop, by what holds ahead of each turn -/
theorem for_enumS {K : PySem.W.Frag} {a : Addr} {z : Int} {xs : List V} {g : TG} {tb : TS} {D : Ends} {σ : L2.St} {H : Hp} (Pv : Nat → L2.St → Hp → Prop) (h0 : Pv 0 σ H) (hl : ∀ i σ H, i ≤ xs.length → Pv i σ H → SqL K H a xs)
    (hs : ∀ i x σ H T, xs[i]? = some x → Pv i σ H → H T = none → g (.ref T) σ (upd H T (.tup [.int (z + (i : Nat)), x])) fun σ2 H2 => tb { D with nx := Pv (i + 1), ct := Pv (i + 1), bk := D.nx } σ2 H2) (hd : ∀ σ H, Pv xs.length σ H → D.nx σ H) :
    ∃ W : Nat → Nat → L2.St → Hp → Prop, (∃ m, W 0 m σ H) ∧ ∀ i m σ H, W i m σ H →
      ((Itn K a z).stop i H ∧ D.nx σ H) ∨ ((Itn K a z).go i H ∧ ∃ N : L2.St → Hp → Prop, (∀ σ' H', N σ' H' → ∃ m', m' < m ∧ W (i + 1) m' σ' H') ∧ ∀ x H', (Itn K a z).yld i H x H' → g x σ H' fun σ2 H2 => tb { D with nx := N, ct := N, bk := D.nx } σ2 H2) := by
  refine ⟨fun i m σ H => m = xs.length - i ∧ i ≤ xs.length ∧ Pv i σ H, ⟨xs.length, by simp, Nat.zero_le _, h0⟩, ?_⟩
  rintro i m σ H ⟨rfl, hi, p⟩
  have q := hl i σ H hi p
  by_cases hlt : i < xs.length
  · refine .inr ⟨⟨xs, xs[i], q, by simp [hlt]⟩, Pv (i + 1), fun σ' H' p' => ⟨xs.length - (i + 1), by omega, rfl, hlt, p'⟩, ?_⟩
    rintro x H' ⟨T, y, rfl, hT, rfl, hy⟩
    exact hs i y σ H T (hy xs q) p hT
  · have e : i = xs.length := by omega
    subst e
    exact .inl ⟨⟨xs, q, rfl⟩, hd σ H p⟩
/-- the same from nothing on -/
theorem for_enum {K : PySem.W.Frag} {a : Addr} {xs : List V} {g : TG} {tb : TS} {D : Ends} {σ : L2.St} {H : Hp} (Pv : Nat → L2.St → Hp → Prop) (h0 : Pv 0 σ H) (hl : ∀ i σ H, i ≤ xs.length → Pv i σ H → SqL K H a xs)
    (hs : ∀ i x σ H T, xs[i]? = some x → Pv i σ H → H T = none → g (.ref T) σ (upd H T (.tup [.int (i : Nat), x])) fun σ2 H2 => tb { D with nx := Pv (i + 1), ct := Pv (i + 1), bk := D.nx } σ2 H2) (hd : ∀ σ H, Pv xs.length σ H → D.nx σ H) :
    ∃ W : Nat → Nat → L2.St → Hp → Prop, (∃ m, W 0 m σ H) ∧ ∀ i m σ H, W i m σ H →
      ((Ite K a).stop i H ∧ D.nx σ H) ∨ ((Ite K a).go i H ∧ ∃ N : L2.St → Hp → Prop, (∀ σ' H', N σ' H' → ∃ m', m' < m ∧ W (i + 1) m' σ' H') ∧ ∀ x H', (Ite K a).yld i H x H' → g x σ H' fun σ2 H2 => tb { D with nx := N, ct := N, bk := D.nx } σ2 H2) := by
  refine ⟨fun i m σ H => m = xs.length - i ∧ i ≤ xs.length ∧ Pv i σ H, ⟨xs.length, by simp, Nat.zero_le _, h0⟩, ?_⟩
  rintro i m σ H ⟨rfl, hi, p⟩
  have q := hl i σ H hi p
  by_cases hlt : i < xs.length
  · refine .inr ⟨⟨xs, xs[i], q, by simp [hlt]⟩, Pv (i + 1), fun σ' H' p' => ⟨xs.length - (i + 1), by omega, rfl, hlt, p'⟩, ?_⟩
    rintro x H' ⟨T, y, rfl, hT, rfl, hy⟩
    exact hs i y σ H T (hy xs q) p hT
  · have e : i = xs.length := by omega
    subst e
    exact .inl ⟨⟨xs, q, Nat.le_refl _⟩, hd σ H p⟩
end Mx

namespace Mx
open PySem L2
section
variable {X : Cx}
/-- the pairs of a list, with what stands in them -/
theorem prs_of {pins : List (Addr × Obj)} {σ : L2.St} {H : Hp} {s : Shared} (I : Inv X pins σ H s) : ∀ {ps : List Addr} {kvs : List (Key × V)}, Paired (fun p kv => SqT X.K H p [kV kv.1, kv.2]) ps kvs →
    ∃ (prs : List (Key × Value)) (us : List (Value × Value)), KV kvs prs ∧ prs.length = ps.length ∧ us.length = ps.length ∧
      ∀ (j : Nat) (u v : Value), us[j]? = some (u, v) → ∃ (b : Addr) (key : Key), ps[j]? = some b ∧ prs[j]? = some (key, v) ∧ s.heap.IsTuple b #[u, v] ∧ (mixKind X.prog X.w).is key u = true
  | _, _, .nil => ⟨[], [], .nil, rfl, rfl, fun j u v e => by simp at e⟩
  | _, _, .cons (a := p) (b := kv) h t => by
    obtain ⟨prs, us, r, l1, l2, hp⟩ := prs_of I t
    obtain ⟨its, rv, ht, _⟩ := I.tuple h
    obtain ⟨u, y, ei, ru, ry⟩ := vals2 rv
    subst ei
    refine ⟨(kv.1, y) :: prs, (u, y) :: us, .cons ⟨rfl, ry⟩ r, by simp [l1], by simp [l2], fun j u' v' e => ?_⟩
    cases j with
    | zero =>
      have e' : (u, y) = (u', v') := Option.some.inj e
      cases e'
      exact ⟨p, kv.1, rfl, rfl, ht, kV_is (P := X.prog) (w := X.w) ru⟩
    | succ j =>
      obtain ⟨b, key, e1, e2, e3, e4⟩ := hp j u' v' (by simpa using e)
      exact ⟨b, key, by simpa using e1, by simpa using e2, e3, e4⟩
/-- d.update(pairs) -/
def rUpd (K : PySem.W.Frag) : V → List V → Hp → VK → Prop := fun x xs H Q => ∃ (d a : Addr) (acc kvs : List (Key × V)) (ps : List Addr), x = .ref d ∧ xs = [.ref a] ∧ H d = some (.dK acc) ∧ SqL K H a (ps.map V.ref) ∧
  Paired (fun p kv => SqT K H p [kV kv.1, kv.2]) ps kvs ∧ acc.length + kvs.length ≤ sizeLine ∧ Q .non (upd H d (.dK (mergeK acc kvs)))
theorem mt_upd (hcalm : X.calm = true) : MtR X "dict.update" (rUpd X.K) := by
  intro pins s σ H x xs v us Q I rx rxs h
  obtain ⟨d, a, acc, kvs, ps, rfl, rfl, hd, ha, hp, hsz, q⟩ := h
  cases rx
  obtain ⟨u, rfl, ru⟩ := rxs.one
  cases ru
  obtain ⟨its, rv, pl, hz⟩ := I.list ha
  have ei := refs_at rv
  subst ei
  obtain ⟨prs, ups, rel, l1, l2, hpr⟩ := prs_of I hp
  obtain ⟨o, n, ho, hc, hdo, hdat⟩ := pl
  obtain ⟨z, hsys, vs, rd, dd⟩ := dk_of I.hok hd
  have hT : s.TypeIs (.ref d) "dict" := dd.typeIs
  obtain ⟨od, hod, hcd⟩ := hT
  have ok : PySem.PlainSeq "list" s.heap a (ps.map Value.ref).toArray ∧ PySem.PairItems s.heap (ps.map Value.ref).toArray (fun j => (ps[j]?).getD 0) ups := by
    refine ⟨⟨o, n, ho, hc, hdo, hdat⟩, by simp [l2], fun j k w hj => ?_⟩
    obtain ⟨b, key, e1, e2, e3, e4⟩ := hpr j k w hj
    refine ⟨by simp [e1], .inl ?_⟩
    show s.heap.IsTuple ((ps[j]?).getD 0) _
    rw [e1]
    exact e3
  refine PySem.call_update_pairs (knd := mixKind X.prog X.w) (acc := vs) (kvs := prs) (s := s) (PySem.PairArg.list a _ _ ups) (I.ok.hd hcalm) ok ?_ ⟨by rw [l1, l2], fun i key w e => ?_⟩ dd ?_ fun h' tk hd' k => ?_
  · intro hm
    rcases List.mem_cons.mp hm with e | hm
    · subst e
      rw [hod] at ho
      cases ho
      rw [hc] at hcd
      exact absurd hcd (by decide)
    · obtain ⟨j, hj, e⟩ := List.mem_map.mp hm
      have hj' : j < ups.length := List.mem_range.mp hj
      obtain ⟨b, key, e1, e2, e3, e4⟩ := hpr j ups[j].1 ups[j].2 (List.getElem?_eq_getElem hj')
      have eb : b = d := by
        have : (ps[j]?).getD 0 = d := e
        rw [e1] at this
        exact this
      subst eb
      obtain ⟨ot, hot, hct, _⟩ := e3
      rw [hod] at hot
      cases hot
      rw [hct] at hcd
      exact absurd hcd (by decide)
  · obtain ⟨b, k', e1, e2, e3, e4⟩ := hpr i key w e
    exact ⟨k', e2, e4⟩
  · have e1 := rd.length
    have e2 := rel.length
    rw [l2, ← l1, ← e2, ← e1]
    exact hsz
  · have hl : (mergeK acc kvs).length ≤ sizeLine := Nat.le_trans (length_mergeK kvs acc) hsz
    have he : ∃ q, h'.get? d = some q := let ⟨q, _, _, hq, _⟩ := hd'; ⟨q, hq⟩
    exact ⟨.non, upd H d (.dK (mergeK acc kvs)), I.write (x := d) (e := d) (t' := tk) (by rw [hd]; exact True.intro) (.inl rfl) (fun b u hb hu => k b u hb (by simp) hu) he (dk_new hl hsys (rel.merge rd) hd'), rfl, q⟩
end
end Mx

namespace Mx
open PySem L2 PySem.Spec PyProof.Rows
/-- the set as it is made -/
abbrev sOb (w : World) : Obj := { cls := .type "set", dict := none, data := .set #[] 0 (.fresh 0 0 (!w.params.followText "set-order")) }
section
variable {P : Program} {w : World} {A : Around} {E : Value → Shared → Prop} {s : Shared}
/-- what is behind set(xs) of whole numbers -/
abbrev SetBeh (w : World) (s : Shared) (ns : List Int) (h' : Heap) (c : Nat) : Prop := SetR w h' s.heap.objs.size (fun j => decide (j ∈ ns)) c ∧ c ≤ ns.length ∧ ∀ b o, s.heap.get? b = some o → h'.get? b = some o
set_option maxHeartbeats 4000000 in
theorem call_set_li {l : Addr} {items : Array Value} (ns : List Int) {Q : Value → Shared → Prop} (hh : A.handled = none) (hl : s.heap.IsList l items) (hit : IntsAre items.toList ns) (hb : ns.length + 1 < scanBound)
    (h : ∀ (h' : Heap) (tk c : Nat), SetBeh w s ns h' c → Q (.ref s.heap.objs.size) { s with heap := h', toks := tk }) : wpAny (model P w) A (call (.type "set") [.ref l]) Q E s := by
  have hisz : items.size = ns.length := by have q := IntsAre.length hit; rw [Array.length_toList] at q; exact q
  obtain ⟨c, tl, hmro⟩ := F.called_set.mro
  have hmade := F.called_set.made; have hsub := F.called_set.sub
  refine wpAny_call (codeAny_of_tree ?_); show wpAny _ _ (callAny (.type "set") _) _ _ _
  refine wpAny_pure ⟨Code.quiet_builtin _ (by decide +kernel), codeAny_builtin F.entry_type_call ?_⟩; rw [Around.under_plain (weight_type_call_type "set" [.ref l] []) rfl]
  have h1 := F.called_set.notType; have h2 := F.called_set.canCreate; have hct := F.typeCall_set_1 (.ref l)
  repeat (any_goals (first | assumption | wp_step))
  refine codeAny_mono (code_set_led1 (.ref l) (E := E) (Q₁ := fun obj s₁ => obj = .ref s.heap.objs.size ∧ s₁ = { s with heap := s.heap.push (sOb w) }) ⟨rfl, rfl⟩) fun r s₁ hr => ?_
  rcases r with e | fl
  · exact hr
  · cases fl with
    | ret obj =>
      obtain ⟨rfl, rfl⟩ := hr
      have hS : (s.heap.push (sOb w)).get? s.heap.objs.size = some (sOb w) := Heap.get?_push_size _ rfl
      have hT : Shared.TypeIs { s with heap := s.heap.push (sOb w) } (.ref s.heap.objs.size) "set" := ⟨_, hS, rfl⟩
      have hli := F.called_set.init.lookup; have hbi := F.called_set.init.bind (.ref s.heap.objs.size)
      repeat (any_goals (first | assumption | wp_step))
      refine codeAny_mono (codeAny_call_builtin (R := wants (fun r s₂ => r = .none ∧ ∃ h' tk c, s₂ = { s with heap := h', toks := tk } ∧ SetBeh w s ns h' c) E) F.called_set.init.plain F.entry_set_init (check_set_init_1 hT ?_)) fun r₂ s₂ hr₂ => ?_
      · obtain ⟨ol, hol, hcl, nl, hdl⟩ := hl
        obtain ⟨ocls, odict, odata, oslots⟩ := ol
        simp only at hcl hdl; subst hcl; subst hdl
        have hol' : (s.heap.push (sOb w)).get? l = some { cls := .type "list", dict := odict, data := .seq items nl, slots := oslots } := Heap.get?_push_of_some _ hol
        have hsls := F.sub_list_set; have hslf := F.sub_list_frozenset; have hne : (Value.type "list" == Value.type "dict") = false := by decide
        have hl1 : (s.heap.push (sOb w)).IsList l items := ⟨_, hol', rfl, nl, rfl⟩
        unfold Builtin.«set.__init__» noKeywords Builtin.Frozenset.updateFrom
        generalize hPI : pyIter = PI; wp_walk; subst hPI
        refine wpAny_pyIter_list hl1 ?_
        refine wpAny_bind (wpAny_runValue ?_)
        have hlS : l < s.heap.objs.size := Heap.lt_size hol
        have hz : (s.heap.push (sOb w)).objs.size = s.heap.objs.size + 1 := Heap.size_push ..
        have hneI : l ≠ (s.heap.push (sOb w)).objs.size := by rw [hz]; exact Nat.ne_of_lt (Nat.lt_succ_of_lt hlS)
        have hSf : s.heap.objs.size ∉ [(s.heap.push (sOb w)).objs.size, l] := by
          rw [hz]; intro m; rcases List.mem_cons.mp m with e | m
          · exact absurd e (Nat.ne_of_lt (Nat.lt_succ_self _))
          · exact absurd (List.mem_singleton.mp m) (Nat.ne_of_gt hlS)
        refine set_update_ints ((Walks.list (by simp [hh]) _ l hneI items).toS) s.heap.objs.size hSf ns hisz hb (fun i v hv => ?_) (items.size - 0) 0 _ (by omega) (Nat.zero_le _) ⟨⟨_, Heap.get?_push_size _ rfl, rfl, rfl⟩, (hl1.push _)⟩
          ⟨0, Nat.le_refl 0, setR_new_at (Heap.get?_push_of_some _ hS)⟩ fun s' c' hm hc' hS' => ?_
        · have hi : i < ns.length := by rw [← hisz]; exact (Array.getElem?_eq_some_iff.mp hv).1
          obtain ⟨t, e⟩ := PyProof.Rows.IntsAre.int_at hit i v (by rw [Array.getElem?_toList]; exact hv)
          exact ⟨ns[i], t, List.getElem?_eq_getElem hi, by rw [e, List.getD_eq_getElem?_getD, List.getElem?_eq_getElem hi] <;> rfl⟩
        · obtain ⟨h', g2, d', tk', os'⟩ := s'
          have eg : g2 = s.gens := hm.gens; have ed : d' = s.drawn := hm.drawn; have eo : os' = s.os := hm.os
          subst eg; subst ed; subst eo
          show wpAny _ _ _ _ _ _
          refine wpAny_pure ?_; show wpAny _ _ (ret Value.none) _ _ _
          rw [hisz] at hc'
          refine wpAny_pure ⟨rfl, h', tk', c', rfl, hS', hc', fun b o e => ?_⟩
          have hb0 : b < s.heap.objs.size := Heap.lt_size e
          refine hm.heap b o (fun m => ?_) (Heap.get?_push_of_some _ (Heap.get?_push_of_some _ e))
          rcases List.mem_cons.mp m with e | m
          · exact absurd e (Nat.ne_of_lt hb0)
          · have q := List.mem_singleton.mp m; rw [hz] at q; exact absurd q (Nat.ne_of_lt (Nat.lt_succ_of_lt hb0))
      · rcases r₂ with e | fl₂
        · exact hr₂
        · cases fl₂ with
          | ret r =>
            obtain ⟨rfl, h', tk, c, rfl, hq⟩ := hr₂
            repeat (any_goals (first | assumption | wp_step))
            exact h _ _ _ hq
          | _ => exact hr₂.elim
    | _ => exact hr.elim
end
section
variable {X : Cx}
/-- set(xs) of a list of whole numbers -/
def rSetLi (K : PySem.W.Frag) (w : World) : List V → Hp → VK → Prop := fun xs H Q => ∃ (l : Addr) (ns : List Int), xs = [.ref l] ∧ SqL K H l (ns.map V.int) ∧ ns.length < 60 ∧ ∀ (p : Addr) (c : Nat), H p = none → c ≤ ns.length → Q (.ref p) (upd H p (SetO w p (fun j => decide (j ∈ ns)) c))
theorem cr_setLi (hc : X.calm = true) : CallR X (.type "set") (rSetLi X.K X.w) := by
  intro pins s σ H xs us Q I r h
  obtain ⟨l, ns, rfl, hl, hn, q⟩ := h
  rw [Vals.ref1 r]
  obtain ⟨its, rv, pl, hz⟩ := I.list hl
  refine call_set_li (P := X.prog) (w := X.w) ns (I.ok.hd hc) pl.isList (by simpa using RZ.intsAre_vals rv) (by unfold scanBound; omega) fun h' tk c hS => ?_
  exact ⟨.ref s.heap.objs.size, upd H s.heap.objs.size (SetO X.w s.heap.objs.size (fun j => decide (j ∈ ns)) c), I.laid (t' := tk) hS.2.2 (Nat.le_refl _) (setO_new hS.1), rfl, q _ _ (I.hok.fresh (Nat.le_refl _)) hS.2.1⟩
end
end Mx

namespace Mx
open PySem L2
def top (i : Nat) : Stmt := PySem.Challenge.pw_mixserver_k06_whole_missed_is_what_lacks.main.body.getD i (.Pass ⟨0, 0, 0, 0⟩)
abbrev s_is_whole : Stmt := top 14
abbrev s_check_soft : Stmt := top 15
abbrev s_check_name : Stmt := top 16
abbrev s_check_pace : Stmt := top 17
abbrev s_check_wait : Stmt := top 18
abbrev s_check_loudness : Stmt := top 19
abbrev s_ratio : Stmt := top 22
abbrev s_plus : Stmt := top 23
abbrev s_times : Stmt := top 24
abbrev s_spot : Stmt := top 26
abbrev s_wanted : Stmt := top 27
abbrev s_Line_init : Stmt := inClass (top 30) 0
abbrev s_Line_take : Stmt := inClass (top 30) 1
abbrev s_Line_close : Stmt := inClass (top 30) 2
abbrev s_Line_room : Stmt := inClass (top 30) 3
abbrev s_Line_begun : Stmt := inClass (top 30) 4
abbrev s_Line_wants : Stmt := inClass (top 30) 5
abbrev s_Line_over : Stmt := inClass (top 30) 6
abbrev s_Line_lacks : Stmt := inClass (top 30) 7
abbrev s_Line_ready : Stmt := inClass (top 30) 8
abbrev s_Line_value : Stmt := inClass (top 30) 9
abbrev s_Loudness_init : Stmt := inClass (top 33) 0
abbrev s_Loudness_lead_on : Stmt := inClass (top 33) 2
abbrev s_Voice_init : Stmt := inClass (top 39) 0
abbrev s_Voice_give : Stmt := inClass (top 39) 1
abbrev s_Voice_sound : Stmt := inClass (top 39) 2
abbrev s_Voice_rise : Stmt := inClass (top 39) 3
abbrev s_Voice_begin_fall : Stmt := inClass (top 39) 4
abbrev s_Voice_fall : Stmt := inClass (top 39) 5
abbrev s_Mixer_init : Stmt := inClass (top 41) 0
abbrev s_Mixer_add : Stmt := inClass (top 41) 1
abbrev s_Mixer_parcel : Stmt := inClass (top 41) 2
abbrev s_Mixer_end : Stmt := inClass (top 41) 3
abbrev s_Mixer_hush : Stmt := inClass (top 41) 5
abbrev s_Mixer_beat : Stmt := inClass (top 41) 7
abbrev s_Mixer_missed : Stmt := inClass (top 41) 9
abbrev s_Mixer_voice_of : Stmt := inClass (top 41) 12
abbrev s_law_taken : Stmt := top 43
abbrev s_law_alike : Stmt := top 44
abbrev s_law_places : Stmt := top 45
abbrev s_law_is_over : Stmt := top 46
abbrev s_law_lacks : Stmt := top 47
abbrev s_law_number : Stmt := top 48
abbrev s_law_pace : Stmt := top 49
abbrev s_law : Stmt := top 50
end Mx

namespace Mx
open PySem L2
set_option hygiene false in
local macro_rules | `(tactic| walk_at "rd") => `(tactic| try simp only [L2.start, List.map_cons, List.map_nil, List.length_cons, List.length_nil, Nat.reduceAdd, Nat.reduceSub, Nat.reduceLT, Nat.reduceLeDiff, List.replicate_succ, List.replicate_zero, List.append_nil, List.nil_append, List.cons_append, List.set_cons_zero, List.set_cons_succ, List.getElem?_cons_zero, List.getElem?_cons_succ,
  Option.some.injEq, List.cons.injEq, and_true, true_and, and_assoc, reduceCtorEq, L2.V.int.injEq, L2.V.ref.injEq, L2.V.bl.injEq, L2.V.str.injEq, L2.V.ty.injEq, L2.HO.ins.injEq, L2.HO.lst.injEq, L2.HO.tup.injEq, L2.HO.dK.injEq, exists_eq_left', exists_eq_left, exists_eq_right, exists_eq', exists_eq, exists_and_left, exists_and_right, reduceIte, Bool.false_eq_true, Bool.not_true, Bool.not_false,
  L2.tSeq, L2.tIfS, L2.tRet, L2.tRetN, L2.tNext, L2.tAsg, L2.gName, L2.tVar, L2.tC, L2.tCons, L2.tNil, L2.tCB, L2.tOp, L2.tUn, L2.tTup, L2.tLst, L2.tB, L2.tOr, L2.tAnd, L2.tNot, L2.tAndV, L2.tOrV, L2.tNotV, L2.tIf, L2.tTest, L2.tChain, L2.rI, L2.rI0, L2.rU, L2.tDrop, L2.tNever, L2.tCall, L2.tMeth, L2.tMake, L2.rGcd, L2.tFld, L2.sFld, L2.sFldAug, Mx.sFldA, Mx.sFldAugA, L2.rAdd, L2.rSub, L2.rEq, L2.rNe, L2.tDGet, L2.tDIn, L2.tDNotIn, L2.sDPut,
  Mx.isi_int_bool, Mx.isi_int_int, Mx.isi_int_tuple, Mx.isi_int_list, Mx.isi_int_str, Mx.scal_int, Mx.scal_str, Mx.scal_bl, Mx.ofString_inj, Mx.ofString_beq, Mx.lk_cons, Mx.pf_nil, Mx.pf_cons, Mx.sz1, Mx.sz2, List.lookup_nil, String.reduceEq, decide_true, decide_false, decide_eq_true_eq, Int.natAbs_natCast, L2.upd_same, L2.upd_upd, L2.cxOf])
set_option hygiene false in
local macro_rules | `(tactic| walk_at "rds") => `(tactic| try simp only [L2.start, List.map_cons, List.map_nil, List.length_cons, List.length_nil, Nat.reduceAdd, Nat.reduceSub, Nat.reduceLT, Nat.reduceLeDiff, List.replicate_succ, List.replicate_zero, List.append_nil, List.nil_append, List.cons_append, List.set_cons_zero, List.set_cons_succ, List.getElem?_cons_zero, List.getElem?_cons_succ,
  Option.some.injEq, List.cons.injEq, and_true, true_and, and_assoc, reduceCtorEq, L2.V.int.injEq, L2.V.ref.injEq, L2.V.bl.injEq, L2.V.str.injEq, L2.V.ty.injEq, L2.HO.ins.injEq, L2.HO.lst.injEq, L2.HO.tup.injEq, L2.HO.dK.injEq, exists_eq_left', exists_eq_left, exists_eq_right, exists_eq', exists_eq, exists_and_left, exists_and_right, reduceIte, Bool.false_eq_true, Bool.not_true, Bool.not_false,
  L2.tSeq, L2.tIfS, L2.tRet, L2.tRetN, L2.tNext, L2.tAsg, L2.gName, L2.tVar, L2.tC, L2.tCons, L2.tNil, L2.tCB, L2.tOp, L2.tUn, L2.tTup, L2.tLst, L2.tB, L2.tOr, L2.tAnd, L2.tNot, L2.tAndV, L2.tOrV, L2.tNotV, L2.tIf, L2.tTest, L2.tChain, L2.rI, L2.rI0, L2.rU, L2.tDrop, L2.tNever, L2.tCall, L2.tMeth, L2.tMake, L2.rGcd, L2.tFld, L2.sFld, L2.sFldAug, Mx.sFldA, Mx.sFldAugA, L2.rAdd, L2.rSub, L2.rEq, L2.rNe, L2.tDGet, L2.tDIn, L2.tDNotIn, L2.sDPut,
  Mx.isi_int_bool, Mx.isi_int_int, Mx.isi_int_tuple, Mx.isi_int_list, Mx.isi_int_str, Mx.scal_int, Mx.scal_str, Mx.scal_bl, Mx.ofString_inj, Mx.ofString_beq, Mx.lk_cons, Mx.pf_nil, Mx.pf_cons, Mx.sz1, Mx.sz2, List.lookup_nil, String.reduceEq, decide_true, decide_false, decide_eq_true_eq, Int.natAbs_natCast, L2.upd_same, L2.upd_upd, L2.cxOf, *])

/-- the built-in names that the program leaves as they are -/
structure Blt (mg : Str → Option Value) : Prop where
  isi : mg "isinstance" = none
  bool : mg "bool" = none
  int : mg "int" = none
  tuple : mg "tuple" = none
  len : mg "len" = none
  all : mg "all" = none
  any : mg "any" = none
  max : mg "max" = none
  divmod : mg "divmod" = none
  enumerate : mg "enumerate" = none
  sorted : mg "sorted" = none
  list : mg "list" = none
  range : mg "range" = none
  abs : mg "abs" = none
  str : mg "str" = none
  gcd : mg "gcd" = some (.builtin "math.gcd")
section
variable {P : Program} {w : World} {K : PySem.W.Frag} {mg : Str → Option Value} {base : Heap}
/-! ### a name that is a built-in class, as a value -/
section
variable {X : Cx} {e1 e2 : Expr} {t1 t2 : TE} {p pos : Pos}
theorem b_isi {T : String} {x : Str} {q : Pos} (B : Blt X.mg) (h1 : PE X e1 t1) (h : X.mg x = none) (hb : bootBuiltins x = some (.type T)) (hx : x ≠ "__name__" := by decide) (hd : (x == ("__debug__" : Str)) = false := by decide) (hg : Gl X "isinstance" := by rfl) (hg2 : Gl X x := by rfl)
    (he : starEach [e1, .Name x q] X.env = (false, eval e1 X.env) :: starEach [.Name x q] X.env := by rfl)
    (he2 : starEach [.Name x q] X.env = (false, eval (.Name x q) X.env) :: starEach [] X.env := by rfl)
    (hpl : (backTo pos (starEach [.Name x q] X.env)).any (·.1) = false := by rfl) :
    PE X (.Call (.Name "isinstance" p) [e1, .Name x q] [] pos) (tCB (rIsi X.K) (tCons t1 (tCons (tC (.ty T)) tNil))) :=
  pe_callB call_isi hg B.isi PyProof.Rows.boot_isinstance (pa_cons h1 (pa_cons (pe_bltn (v := .ty T) hg2 h hb rfl hx hd) pa_nil he2) he) (he := he) (hpl := hpl)
end

/-! ### is_whole -/
def sp_is_whole : Sp := fun vs H Q _ => ∃ (n lo hi : Int), vs = [.int n, .int lo, .int hi] ∧ Q (.bl (decide (lo ≤ n ∧ n ≤ hi))) H
theorem sc_is_whole : FnScope ["number", "low", "high"] ["number", "low", "high"] (defScope s_is_whole) := ⟨rfl, rfl, rfl, by decide +kernel, rfl, by decide +kernel, by decide +kernel⟩
theorem ok_is_whole {f : Addr} {fd : FuncData} (F : Fun K "is_whole" "is_whole" s_is_whole f fd) (B : Blt mg) : FnOk P w K mg base CX0 1 f fd ["number", "low", "high"] sp_is_whole := by
  refine F.ok sc_is_whole (fun vs H Q E h => ?_) (fun cdv A outer s H vs Q E hr h => ?_)
  · obtain ⟨n, lo, hi, rfl, _⟩ := h
    rfl
  · obtain ⟨n, lo, hi, rfl, k⟩ := h
    refine ⟨_, pss_cons (ps_if (PW.pt (pw_or (pt_val (b_isi B (pv 0) B.bool PyProof.Rows.boot_bool)) (pw_or1 (pt_not (pt_val (b_isi B (pv 0) B.int PyProof.Rows.boot_int))))))
        (pss_one (ps_ret pe_bl)) pss_nil)
      (pss_one (ps_ret (pe_chain op_le op_le (pv 1) (pv 0) (pv 2)))), ?_⟩
    walk_at "rd"
    by_cases h1 : lo ≤ n
    · rw [if_pos h1]
      rw [show (decide (n ≤ hi)) = decide (lo ≤ n ∧ n ≤ hi) from by simp [h1]]
      exact k
    · rw [if_neg (by simpa using h1)]
      rw [show (false) = decide (lo ≤ n ∧ n ≤ hi) from by simp [h1]]
      exact k

/-! ### ratio, plus, times, minus -/
def frac (q : Rat) : List V := [.int q.num, .int (q.den : Int)]
def sp_ratio : Sp := fun vs H Q _ => ∃ (t b : Int), vs = [.int t, .int b] ∧ 0 < b ∧ b.natAbs < 2 ^ 9000 ∧
  ∀ p H', H p = none → Stp [] H H' → H' p = some (.tup (frac (mkRat t b.toNat))) → Q (.ref p) H'
theorem sc_ratio : FnScope ["top", "bottom", "shared"] ["top", "bottom"] (defScope s_ratio) := ⟨rfl, rfl, rfl, by decide +kernel, rfl, by decide +kernel, by decide +kernel⟩
theorem ok_ratio {f : Addr} {fd : FuncData} (F : Fun K "ratio" "ratio" s_ratio f fd) (B : Blt mg) : FnOk P w K mg base CX0 1 f fd ["top", "bottom"] sp_ratio := by
  refine F.ok sc_ratio (fun vs H Q E h => ?_) (fun cdv A outer s H vs Q E hr h => ?_)
  · obtain ⟨t, b, rfl, _⟩ := h
    rfl
  · obtain ⟨t, b', rfl, h0', hb, k⟩ := h
    obtain ⟨b, rfl⟩ : ∃ b : Nat, b' = b := ⟨b'.toNat, by omega⟩
    have h0 : 0 < b := by omega
    rw [Int.natAbs_natCast] at hb
    rw [Int.toNat_natCast] at k
    refine ⟨_, pss_cons (ps_set (i := 2) sc_ratio.nd rfl (Or.inl rfl) (pe_callBfun cr_gcd (by rfl) B.gcd (pa_cons (pv 0) (pa_cons (pv 1) pa_nil))))
      (pss_one (ps_ret (pe_tup (pa_cons (pe_op op_fdivW (pv 0) (pv 2)) (pa_cons (pe_op op_fdivW (pv 1) (pv 2)) pa_nil))))), ?_⟩
    have hgp : 0 < Nat.gcd t.natAbs b := Nat.gcd_pos_of_pos_right _ h0
    have hgd : CDivW t ((Nat.gcd t.natAbs b : Nat) : Int) := wide_div (b := 9000) (by omega) (by rw [Int.natAbs_natCast]; exact Nat.lt_of_le_of_lt (Nat.gcd_le_right _ h0) hb) (by decide) (by decide)
    walk_at "rd"
    refine ⟨hgd, ⟨hgd.1, hgd.2⟩, fun p hp => k p _ hp (Stp.new hp) ?_⟩
    unfold frac
    rw [mk_num t b h0, mk_den t b h0]
    exact upd_same
/-- of two fractions a third: a new tuple -/
def sp_two (g : Rat → Rat → Rat) (K : PySem.W.Frag) : Sp := fun vs H Q _ => ∃ (a b : Addr) (q r : Rat) (n m : Nat), vs = [.ref a, .ref b] ∧ TupAt K H a (frac q) ∧ TupAt K H b (frac r) ∧ Rb n q ∧ Rb m r ∧ n + m < 9000 ∧ 0 < n ∧ 0 < m ∧
  ∀ p H', H p = none → Stp [] H H' → H' p = some (.tup (frac (g q r))) → Q (.ref p) H'
theorem at0 {x : V} {r : List V} : atI (x :: r) 0 = some x := by
  show ((if (0 : Int) ≤ 0 then (if (0 : Int) < ((r.length + 1 : Nat) : Int) then some (0 : Int).toNat else none) else _ : Option Nat)).bind _ = _
  rw [if_pos (by decide), if_pos (by omega)]
  rfl
theorem at1 {x y : V} {r : List V} : atI (x :: y :: r) 1 = some y := by
  show ((if (0 : Int) ≤ 1 then (if (1 : Int) < ((r.length + 1 + 1 : Nat) : Int) then some (1 : Int).toNat else none) else _ : Option Nat)).bind _ = _
  rw [if_pos (by decide), if_pos (by omega)]
  rfl
theorem ixT_0 {H : Hp} {a : Addr} {x : V} {r : List V} {Q : VK} (h : TupAt K H a (x :: r)) (q : Q x H) : rIxT K (.ref a) (.int 0) H Q := ⟨a, _, 0, x, rfl, rfl, h.sq, at0, q⟩
theorem ixT_1 {H : Hp} {a : Addr} {x y : V} {r : List V} {Q : VK} (h : TupAt K H a (x :: y :: r)) (q : Q y H) : rIxT K (.ref a) (.int 1) H Q := ⟨a, _, 1, y, rfl, rfl, h.sq, at1, q⟩
theorem sc_plus : FnScope ["one", "other"] ["one", "other"] (defScope s_plus) := ⟨rfl, rfl, rfl, by decide +kernel, rfl, by decide +kernel, by decide +kernel⟩
theorem ok_plus {f : Addr} {fd : FuncData} (F : Fun K "plus" "plus" s_plus f fd) (G : OwnF P w K mg base "ratio" 1 ["top", "bottom"] sp_ratio) : FnOk P w K mg base CX0 2 f fd ["one", "other"] (sp_two (· + ·) K) := by
  refine F.ok sc_plus (fun vs H Q E h => ?_) (fun cdv A outer s H vs Q E hr h => ?_)
  · obtain ⟨a, b, q, r, n, m, rfl, _⟩ := h
    rfl
  · obtain ⟨a, b, q, r, n, m, rfl, ha, hb, hn, hm, hl, hn0, hm0, k⟩ := h
    refine ⟨_, pss_one (ps_ret (p_call G hr (pa_cons (pe_op op_add (pe_op op_mulW (pe_ix ix_tup (pv 0) pe_int (fun _ _ => rfl)) (pe_ix ix_tup (pv 1) pe_int (fun _ _ => rfl))) (pe_op op_mulW (pe_ix ix_tup (pv 1) pe_int (fun _ _ => rfl)) (pe_ix ix_tup (pv 0) pe_int (fun _ _ => rfl))))
      (pa_cons (pe_op op_mulW (pe_ix ix_tup (pv 0) pe_int (fun _ _ => rfl)) (pe_ix ix_tup (pv 1) pe_int (fun _ _ => rfl))) pa_nil)))), ?_⟩
    walk_at "rd"
    have e1 : 2 ^ n * 2 ^ m = 2 ^ (n + m) := (Nat.pow_add 2 n m).symm
    refine ixT_0 ha (ixT_1 hb ⟨_, rfl, _, rfl, wide_mul hn.num (by simpa using hm.den) hn0 hm0 (by omega), ixT_0 hb (ixT_1 ha ⟨_, rfl, _, rfl, wide_mul hm.num (by simpa using hn.den) hm0 hn0 (by omega), ixT_1 ha (ixT_1 hb ⟨_, rfl, _, rfl, wide_mul (by simpa using hn.den) (by simpa using hm.den) hn0 hm0 (by omega), ?_⟩)⟩)⟩)
    have hd : (q.den : Int) * (r.den : Int) = ((q.den * r.den : Nat) : Int) := by simp
    refine ⟨_, _, rfl, ?_, ?_, fun p H' hp hs hl' => k p H' hp hs ?_⟩
    · rw [hd]
      have := Nat.mul_pos q.den_pos r.den_pos
      omega
    · rw [hd, Int.natAbs_natCast]
      exact Nat.lt_of_lt_of_le (Nat.mul_lt_mul'' hn.den hm.den) (by rw [e1]; exact Nat.pow_le_pow_right (by decide) (by omega))
    · rw [hd, Int.toNat_natCast, add_mk] at hl'
      exact hl'
theorem sc_times : FnScope ["one", "other"] ["one", "other"] (defScope s_times) := ⟨rfl, rfl, rfl, by decide +kernel, rfl, by decide +kernel, by decide +kernel⟩
theorem ok_times {f : Addr} {fd : FuncData} (F : Fun K "times" "times" s_times f fd) (G : OwnF P w K mg base "ratio" 1 ["top", "bottom"] sp_ratio) : FnOk P w K mg base CX0 2 f fd ["one", "other"] (sp_two (· * ·) K) := by
  refine F.ok sc_times (fun vs H Q E h => ?_) (fun cdv A outer s H vs Q E hr h => ?_)
  · obtain ⟨a, b, q, r, n, m, rfl, _⟩ := h
    rfl
  · obtain ⟨a, b, q, r, n, m, rfl, ha, hb, hn, hm, hl, hn0, hm0, k⟩ := h
    refine ⟨_, pss_one (ps_ret (p_call G hr (pa_cons (pe_op op_mulW (pe_ix ix_tup (pv 0) pe_int (fun _ _ => rfl)) (pe_ix ix_tup (pv 1) pe_int (fun _ _ => rfl)))
      (pa_cons (pe_op op_mulW (pe_ix ix_tup (pv 0) pe_int (fun _ _ => rfl)) (pe_ix ix_tup (pv 1) pe_int (fun _ _ => rfl))) pa_nil)))), ?_⟩
    walk_at "rd"
    have e1 : 2 ^ n * 2 ^ m = 2 ^ (n + m) := (Nat.pow_add 2 n m).symm
    refine ixT_0 ha (ixT_0 hb ⟨_, rfl, _, rfl, wide_mul hn.num hm.num hn0 hm0 (by omega), ixT_1 ha (ixT_1 hb ⟨_, rfl, _, rfl, wide_mul (by simpa using hn.den) (by simpa using hm.den) hn0 hm0 (by omega), ?_⟩)⟩)
    have hd : (q.den : Int) * (r.den : Int) = ((q.den * r.den : Nat) : Int) := by simp
    refine ⟨_, _, rfl, ?_, ?_, fun p H' hp hs hl' => k p H' hp hs ?_⟩
    · rw [hd]
      have := Nat.mul_pos q.den_pos r.den_pos
      omega
    · rw [hd, Int.natAbs_natCast]
      exact Nat.lt_of_lt_of_le (Nat.mul_lt_mul'' hn.den hm.den) (by rw [e1]; exact Nat.pow_le_pow_right (by decide) (by omega))
    · rw [hd, Int.toNat_natCast, mul_mk] at hl'
      exact hl'
end
end Mx

namespace Mx
open PySem L2
set_option hygiene false in
local macro_rules | `(tactic| walk_at "rd") => `(tactic| try simp only [L2.start, List.map_cons, List.map_nil, List.length_cons, List.length_nil, Nat.reduceAdd, Nat.reduceSub, Nat.reduceLT, Nat.reduceLeDiff, List.replicate_succ, List.replicate_zero, List.append_nil, List.nil_append, List.cons_append, List.set_cons_zero, List.set_cons_succ, List.getElem?_cons_zero, List.getElem?_cons_succ,
  Option.some.injEq, List.cons.injEq, and_true, true_and, and_assoc, reduceCtorEq, L2.V.int.injEq, L2.V.ref.injEq, L2.V.bl.injEq, L2.V.str.injEq, L2.V.ty.injEq, L2.HO.ins.injEq, L2.HO.lst.injEq, L2.HO.tup.injEq, L2.HO.dK.injEq, exists_eq_left', exists_eq_left, exists_eq_right, exists_eq', exists_eq, exists_and_left, exists_and_right, reduceIte, Bool.false_eq_true, Bool.not_true, Bool.not_false,
  L2.tSeq, L2.tIfS, L2.tRet, L2.tRetN, L2.tNext, L2.tAsg, L2.gName, L2.tVar, L2.tC, L2.tCons, L2.tNil, L2.tCB, L2.tOp, L2.tUn, L2.tTup, L2.tLst, L2.tB, L2.tOr, L2.tAnd, L2.tNot, L2.tAndV, L2.tOrV, L2.tNotV, L2.tIf, L2.tTest, L2.tChain, L2.rI, L2.rI0, L2.rU, L2.tDrop, L2.tNever, L2.tCall, L2.tMeth, L2.tMake, L2.rGcd, L2.tFld, L2.sFld, L2.sFldAug, Mx.sFldA, Mx.sFldAugA, L2.rAdd, L2.rSub, L2.rEq, L2.rNe, L2.tDGet, L2.tDIn, L2.tDNotIn, L2.sDPut,
  Mx.isi_int_bool, Mx.isi_int_int, Mx.isi_int_tuple, Mx.isi_int_list, Mx.isi_int_str, Mx.scal_int, Mx.scal_str, Mx.scal_bl, Mx.ofString_inj, Mx.ofString_beq, Mx.lk_cons, Mx.pf_nil, Mx.pf_cons, Mx.sz1, Mx.sz2, List.lookup_nil, String.reduceEq, decide_true, decide_false, decide_eq_true_eq, Int.natAbs_natCast, L2.upd_same, L2.upd_upd, L2.cxOf, L2.gCons, L2.gNil])
set_option hygiene false in
local macro_rules | `(tactic| walk_at "rds") => `(tactic| try simp only [L2.start, List.map_cons, List.map_nil, List.length_cons, List.length_nil, Nat.reduceAdd, Nat.reduceSub, Nat.reduceLT, Nat.reduceLeDiff, List.replicate_succ, List.replicate_zero, List.append_nil, List.nil_append, List.cons_append, List.set_cons_zero, List.set_cons_succ, List.getElem?_cons_zero, List.getElem?_cons_succ,
  Option.some.injEq, List.cons.injEq, and_true, true_and, and_assoc, reduceCtorEq, L2.V.int.injEq, L2.V.ref.injEq, L2.V.bl.injEq, L2.V.str.injEq, L2.V.ty.injEq, L2.HO.ins.injEq, L2.HO.lst.injEq, L2.HO.tup.injEq, L2.HO.dK.injEq, exists_eq_left', exists_eq_left, exists_eq_right, exists_eq', exists_eq, exists_and_left, exists_and_right, reduceIte, Bool.false_eq_true, Bool.not_true, Bool.not_false,
  L2.tSeq, L2.tIfS, L2.tRet, L2.tRetN, L2.tNext, L2.tAsg, L2.gName, L2.tVar, L2.tC, L2.tCons, L2.tNil, L2.tCB, L2.tOp, L2.tUn, L2.tTup, L2.tLst, L2.tB, L2.tOr, L2.tAnd, L2.tNot, L2.tAndV, L2.tOrV, L2.tNotV, L2.tIf, L2.tTest, L2.tChain, L2.rI, L2.rI0, L2.rU, L2.tDrop, L2.tNever, L2.tCall, L2.tMeth, L2.tMake, L2.rGcd, L2.tFld, L2.sFld, L2.sFldAug, Mx.sFldA, Mx.sFldAugA, L2.rAdd, L2.rSub, L2.rEq, L2.rNe, L2.tDGet, L2.tDIn, L2.tDNotIn, L2.sDPut,
  Mx.isi_int_bool, Mx.isi_int_int, Mx.isi_int_tuple, Mx.isi_int_list, Mx.isi_int_str, Mx.scal_int, Mx.scal_str, Mx.scal_bl, Mx.ofString_inj, Mx.ofString_beq, Mx.lk_cons, Mx.pf_nil, Mx.pf_cons, Mx.sz1, Mx.sz2, List.lookup_nil, String.reduceEq, decide_true, decide_false, decide_eq_true_eq, Int.natAbs_natCast, L2.upd_same, L2.upd_upd, L2.cxOf, L2.gCons, L2.gNil, *])

section
variable {P : Program} {w : World} {K : PySem.W.Frag} {mg : Str → Option Value} {base : Heap}
def lowN (n pn pb : Int) : Int := n * pn / pb
def restN (n pn pb : Int) : Int := n * pn % pb
def wantN (n pn pb : Int) : List Int := if restN n pn pb = 0 then [lowN n pn pb] else [lowN n pn pb, lowN n pn pb + 1]
def lastN (n pn pb : Int) : Int := if restN n pn pb = 0 then lowN n pn pb else lowN n pn pb + 1
theorem at_last {n pn pb : Int} : atI ((wantN n pn pb).map V.int) (-1) = some (.int (lastN n pn pb)) := by
  unfold wantN lastN
  split <;> rfl
def madeN (i pn pb : Int) : Int := (i * pb + pn - 1) / pn
def endN (many L : Int) : Int := (L / many + 1) * many - 1
def gapN (pn pb many p : Int) : Int := madeN (endN many (lastN p pn pb)) pn pb - p
def sp_spot : Sp := fun vs H Q _ => ∃ (tp : Addr) (pn pb n : Int), vs = [.ref tp, .int n] ∧ H tp = some (.tup [.int pn, .int pb]) ∧ (1 ≤ pn ∧ pn ≤ 8) ∧ (1 ≤ pb ∧ pb ≤ 8) ∧ ∀ p H', H p = none → Stp [] H H' → H' p = some (.tup [.int (lowN n pn pb), .int (restN n pn pb)]) → Q (.ref p) H'
theorem sc_spot : FnScope ["pace", "passed", "numbers", "beats"] ["pace", "passed"] (defScope s_spot) := ⟨rfl, rfl, rfl, by decide +kernel, rfl, by decide +kernel, by decide +kernel⟩
theorem ok_spot {f : Addr} {fd : FuncData} (F : Fun K "spot" "spot" s_spot f fd) (B : Blt mg) : FnOk P w K mg base CX0 1 f fd ["pace", "passed"] sp_spot := by
  refine F.ok sc_spot (fun vs H Q E h => ?_) (fun cdv A outer s H vs Q E hr h => ?_)
  · obtain ⟨tp, pn, pb, n, rfl, _⟩ := h
    rfl
  · obtain ⟨tp, pn, pb, n, rfl, htp, hpn, hpb, k⟩ := h
    refine ⟨_, pss_cons (ps_asg (pv 0) (pg_tup rfl (pgs_cons (pg_name (i := 2) sc_spot.nd rfl (.inl rfl)) (pgs_cons (pg_name (i := 3) sc_spot.nd rfl (.inl rfl)) pgs_nil))))
      (pss_one (ps_ret (pe_callB call_divmod (by rfl) B.divmod (by decide +kernel) (pa_cons (pe_op op_mul (pv 1) (pv 2)) (pa_cons (pv 3) pa_nil))))), ?_⟩
    refine ⟨_, rfl, tp, _, rfl, .inl (.inl htp), rfl, ?_⟩
    walk_at "rd"
    exact ⟨.inr ⟨by omega, by omega⟩, ⟨by omega, by omega⟩, fun p hp => k p _ hp (Stp.new hp) upd_same⟩
def sp_wanted : Sp := fun vs H Q _ => ∃ (tp : Addr) (pn pb n : Int), vs = [.ref tp, .int n] ∧ H tp = some (.tup [.int pn, .int pb]) ∧ (1 ≤ pn ∧ pn ≤ 8) ∧ (1 ≤ pb ∧ pb ≤ 8) ∧ ∀ p H', H p = none → Stp [] H H' → H' p = some (.lst ((wantN n pn pb).map V.int)) → Q (.ref p) H'
theorem sc_wanted : FnScope ["pace", "passed", "low", "rest"] ["pace", "passed"] (defScope s_wanted) := ⟨rfl, rfl, rfl, by decide +kernel, rfl, by decide +kernel, by decide +kernel⟩
theorem ok_wanted {f : Addr} {fd : FuncData} (F : Fun K "wanted" "wanted" s_wanted f fd) (G : OwnF P w K mg base "spot" 1 ["pace", "passed"] sp_spot) : FnOk P w K mg base CX0 2 f fd ["pace", "passed"] sp_wanted := by
  refine F.ok sc_wanted (fun vs H Q E h => ?_) (fun cdv A outer s H vs Q E hr h => ?_)
  · obtain ⟨tp, pn, pb, n, rfl, _⟩ := h
    rfl
  · obtain ⟨tp, pn, pb, n, rfl, htp, hpn, hpb, k⟩ := h
    refine ⟨_, pss_cons (ps_asg (p_call G hr (pa_cons (pv 0) (pa_cons (pv 1) pa_nil))) (pg_tup rfl (pgs_cons (pg_name (i := 2) sc_wanted.nd rfl (.inl rfl)) (pgs_cons (pg_name (i := 3) sc_wanted.nd rfl (.inl rfl)) pgs_nil))))
      (pss_one (ps_ret (pe_ifExp (pt_cmpR op_eq (pv 3) pe_int (nomark _)) (pe_lst (pa_cons (pv 2) pa_nil)) (pe_lst (pa_cons (pv 2) (pa_cons (pe_op op_add (pv 2) pe_int) pa_nil)))))), ?_⟩
    refine ⟨_, rfl, _, rfl, tp, pn, pb, n, rfl, htp, hpn, hpb, fun p H1 hp hs hl => ⟨p, _, rfl, .inl (.inl hl), rfl, ?_⟩⟩
    walk_at "rd"
    unfold wantN at k
    by_cases e : restN n pn pb = 0
    · rw [if_pos e] at k ⊢
      intro q hq
      exact k q _ (hs.free hq (by simp)) (hs.trans (Stp.new hq)) upd_same
    · rw [if_neg e] at k ⊢
      intro q hq
      exact k q _ (hs.free hq (by simp)) (hs.trans (Stp.new hq)) upd_same
end
end Mx

namespace Mx
open PySem L2
/-! ### a voice's numbers: what a Line holds -/
structure LineS where
  pn : Int
  pb : Int
  beg : Int
  came : List (Int × Int)
  reach : Int
  many : Option Int
def optV : Option Int → V
  | none => .non
  | some n => .int n
def cam (c : List (Int × Int)) : List (Key × V) := c.map fun p => (Sum.inl p.1, V.int p.2)
def look (c : List (Int × Int)) (i : Int) : Option Int := (c.find? fun p => decide (p.1 = i)).map (·.2)
theorem cam_get (c : List (Int × Int)) (i : Int) : valV (cam c) (Sum.inl i : Key) = (look c i).map V.int := by
  unfold valV look cam
  induction c with
  | nil => rfl
  | cons p r ih =>
    by_cases h : p.1 = i
    · subst h
      simp
    · rw [List.map_cons, List.find?_cons_of_neg (by simpa using h), List.find?_cons_of_neg (by simpa using h)]
      exact ih
def put1 (c : List (Int × Int)) (i n : Int) : List (Int × Int) := if (look c i).isSome then c else c ++ [(i, n)]
def putAll : List (Int × Int) → Int → List Int → List (Int × Int)
  | c, _, [] => c
  | c, i, n :: r => putAll (put1 c i n) (i + 1) r
theorem putAll_snoc : ∀ (r : List Int) (c : List (Int × Int)) (i n : Int), putAll c i (r ++ [n]) = put1 (putAll c i r) (i + (r.length : Int)) n
  | [], c, i, n => by
    show put1 c i n = put1 c (i + ((0 : Nat) : Int)) n
    rw [show i + ((0 : Nat) : Int) = i by omega]
  | m :: r, c, i, n => by
    show putAll (put1 c i m) (i + 1) (r ++ [n]) = put1 (putAll (put1 c i m) (i + 1) r) (i + ((r.length + 1 : Nat) : Int)) n
    rw [putAll_snoc r]
    rw [show i + 1 + (r.length : Int) = i + ((r.length + 1 : Nat) : Int) by omega]
theorem put1_len (c : List (Int × Int)) (i n : Int) : (put1 c i n).length ≤ c.length + 1 := by
  unfold put1
  split
  · omega
  · rw [List.length_append]
    exact Nat.le_refl _
theorem putAll_len : ∀ (r : List Int) (c : List (Int × Int)) (i : Int), (putAll c i r).length ≤ c.length + r.length
  | [], c, i => Nat.le_refl _
  | m :: r, c, i => by
    have h1 := putAll_len r (put1 c i m) (i + 1)
    have h2 := put1_len c i m
    show (putAll (put1 c i m) (i + 1) r).length ≤ c.length + (r.length + 1)
    omega
theorem cam_put {c : List (Int × Int)} {i n : Int} (h : look c i = none) : putK (cam c) (Sum.inl i : Key) (V.int n) = cam (put1 c i n) := by
  have e : valV (cam c) (Sum.inl i : Key) = none := by rw [cam_get, h]; rfl
  rw [putK_new _ e]
  unfold put1
  rw [h]
  simp [cam]
def LineS.low (s : LineS) (t : Int) : Int := (t - s.beg) * s.pn / s.pb
def LineS.rest (s : LineS) (t : Int) : Int := (t - s.beg) * s.pn % s.pb
def LineS.want (s : LineS) (t : Int) : List Int := if s.rest t = 0 then [s.low t] else [s.low t, s.low t + 1]
def LineS.last (s : LineS) (t : Int) : Int := if s.rest t = 0 then s.low t else s.low t + 1
def LineS.over (s : LineS) (t : Int) : Bool := match s.many with
  | none => false
  | some m => decide (m ≤ s.last t)
def LineS.has (s : LineS) (i : Int) : Bool := (look s.came i).isSome
def LineS.begun (s : LineS) (t : Int) : Bool := decide (s.beg ≤ t)
def LineS.lacks (s : LineS) (t : Int) : Bool := s.begun t && !s.over t && (s.want t).any fun i => !s.has i
def LineS.ready (s : LineS) (t : Int) : Bool := s.begun t && !s.over t && !s.lacks t
def LineS.at (s : LineS) (i : Int) : Int := (look s.came i).getD 0
def LineS.value (s : LineS) (t : Int) : Rat := if s.rest t = 0 then mkRat (s.at (s.low t)) 1 else mkRat (s.at (s.low t) * (s.pb - s.rest t) + s.at (s.low t + 1) * s.rest t) s.pb.toNat
def LineS.room (s : LineS) : Int := s.many.getD 1000
def LineS.take (s : LineS) (i : Int) (ns : List Int) : LineS := { s with came := putAll s.came i ns, reach := max s.reach (i + (ns.length : Int)) }
structure LineOk (s : LineS) : Prop where
  pn0 : 1 ≤ s.pn
  pn1 : s.pn ≤ 8
  pb0 : 1 ≤ s.pb
  pb1 : s.pb ≤ 8
  cm : ∀ p ∈ s.came, -999 ≤ p.2 ∧ p.2 ≤ 999
  len : s.came.length ≤ 100000
/-- its attributes, in the order of its making -/
def fsL (tp c : Addr) (s : LineS) : List (Str × V) := [("pace", .ref tp), ("begin", .int s.beg), ("came", .ref c), ("reach", .int s.reach), ("many", optV s.many)]
structure LineAt (C : Addr) (H : Hp) (l c : Addr) (s : LineS) : Prop where
  ob : ∃ dx tp, H l = some (.ins C dx (fsL tp c s)) ∧ H tp = some (.tup [.int s.pn, .int s.pb])
  dc : H c = some (.dK (cam s.came))
theorem LineAt.ne {C : Addr} {H : Hp} {l c : Addr} {s : LineS} (h : LineAt C H l c s) : l ≠ c := by
  obtain ⟨dx, tp, h1, _⟩ := h.ob
  exact ne_of h1 h.dc (fun z => nomatch z)
theorem LineAt.st {C : Addr} {F : List Addr} {H H' : Hp} {l c : Addr} {s : LineS} (h : LineAt C H l c s) (k : Stp F H H') (n1 : l ∉ F) (n2 : c ∉ F) : LineAt C H' l c s := by
  obtain ⟨dx, tp, h1, ht⟩ := h.ob
  exact ⟨⟨dx, tp, k.keep _ _ h1 n1, k.tup _ _ ht⟩, k.keep _ _ h.dc n2⟩
theorem LineAt.st0 {C : Addr} {H H' : Hp} {l c : Addr} {s : LineS} (h : LineAt C H l c s) (k : Stp [] H H') : LineAt C H' l c s := h.st k (by simp) (by simp)
/-- what the class is as the top has made it -/
structure TL (K : PySem.W.Frag) (C : Addr) : Prop where
  cl : Cls K C
  a1 : NoAttr K C "pace"
  a3 : NoAttr K C "begin"
  a4 : NoAttr K C "came"
  a5 : NoAttr K C "reach"
  a6 : NoAttr K C "many"
theorem s1000 {n : Nat} (h : n < 1000) : (n < 1000) = True := eq_true h
set_option hygiene false in
local macro_rules | `(tactic| walk_at "rd") => `(tactic| try simp only [L2.start, List.map_cons, List.map_nil, List.length_cons, List.length_nil, Nat.reduceAdd, Nat.reduceSub, Nat.reduceLT, Nat.reduceLeDiff, List.replicate_succ, List.replicate_zero, List.append_nil, List.nil_append, List.cons_append, List.set_cons_zero, List.set_cons_succ, List.getElem?_cons_zero, List.getElem?_cons_succ,
  Option.some.injEq, List.cons.injEq, and_true, true_and, and_assoc, reduceCtorEq, L2.V.int.injEq, L2.V.ref.injEq, L2.V.bl.injEq, L2.V.str.injEq, L2.V.ty.injEq, L2.HO.ins.injEq, L2.HO.lst.injEq, L2.HO.tup.injEq, L2.HO.dK.injEq, exists_eq_left', exists_eq_left, exists_eq_right, exists_eq', exists_eq, exists_and_left, exists_and_right, reduceIte, Bool.false_eq_true, Bool.not_true, Bool.not_false,
  L2.tSeq, L2.tIfS, L2.tRet, L2.tRetN, L2.tNext, L2.tAsg, L2.gName, L2.tVar, L2.tC, L2.tCons, L2.tNil, L2.tCB, L2.tOp, L2.tUn, L2.tTup, L2.tLst, L2.tB, L2.tOr, L2.tAnd, L2.tNot, L2.tAndV, L2.tOrV, L2.tNotV, L2.tIf, L2.tTest, L2.tChain, L2.rI, L2.rI0, L2.rU, L2.tDrop, L2.tNever, L2.tCall, L2.tMeth, L2.tMake, L2.rGcd, L2.tFld, L2.sFld, L2.sFldAug, Mx.sFldA, Mx.sFldAugA, L2.rAdd, L2.rSub, L2.rEq, L2.rNe, L2.tDGet, L2.tDIn, L2.tDNotIn, L2.sDPut,
  Mx.isi_int_bool, Mx.isi_int_int, Mx.isi_int_tuple, Mx.isi_int_list, Mx.isi_int_str, Mx.scal_int, Mx.scal_str, Mx.scal_bl, Mx.ofString_inj, Mx.ofString_beq, Mx.lk_cons, Mx.pf_nil, Mx.pf_cons, Mx.sz1, Mx.sz2, List.lookup_nil, String.reduceEq, decide_true, decide_false, decide_eq_true_eq, Int.natAbs_natCast, L2.upd_same, L2.upd_upd, L2.cxOf, Mx.fsL, Mx.gFld, L2.gCons, L2.gNil, L2.tDNewK, Mx.optV])
set_option hygiene false in
local macro_rules | `(tactic| walk_at "rds") => `(tactic| try simp only [L2.start, List.map_cons, List.map_nil, List.length_cons, List.length_nil, Nat.reduceAdd, Nat.reduceSub, Nat.reduceLT, Nat.reduceLeDiff, List.replicate_succ, List.replicate_zero, List.append_nil, List.nil_append, List.cons_append, List.set_cons_zero, List.set_cons_succ, List.getElem?_cons_zero, List.getElem?_cons_succ,
  Option.some.injEq, List.cons.injEq, and_true, true_and, and_assoc, reduceCtorEq, L2.V.int.injEq, L2.V.ref.injEq, L2.V.bl.injEq, L2.V.str.injEq, L2.V.ty.injEq, L2.HO.ins.injEq, L2.HO.lst.injEq, L2.HO.tup.injEq, L2.HO.dK.injEq, exists_eq_left', exists_eq_left, exists_eq_right, exists_eq', exists_eq, exists_and_left, exists_and_right, reduceIte, Bool.false_eq_true, Bool.not_true, Bool.not_false,
  L2.tSeq, L2.tIfS, L2.tRet, L2.tRetN, L2.tNext, L2.tAsg, L2.gName, L2.tVar, L2.tC, L2.tCons, L2.tNil, L2.tCB, L2.tOp, L2.tUn, L2.tTup, L2.tLst, L2.tB, L2.tOr, L2.tAnd, L2.tNot, L2.tAndV, L2.tOrV, L2.tNotV, L2.tIf, L2.tTest, L2.tChain, L2.rI, L2.rI0, L2.rU, L2.tDrop, L2.tNever, L2.tCall, L2.tMeth, L2.tMake, L2.rGcd, L2.tFld, L2.sFld, L2.sFldAug, Mx.sFldA, Mx.sFldAugA, L2.rAdd, L2.rSub, L2.rEq, L2.rNe, L2.tDGet, L2.tDIn, L2.tDNotIn, L2.sDPut,
  Mx.isi_int_bool, Mx.isi_int_int, Mx.isi_int_tuple, Mx.isi_int_list, Mx.isi_int_str, Mx.scal_int, Mx.scal_str, Mx.scal_bl, Mx.ofString_inj, Mx.ofString_beq, Mx.lk_cons, Mx.pf_nil, Mx.pf_cons, Mx.sz1, Mx.sz2, List.lookup_nil, String.reduceEq, decide_true, decide_false, decide_eq_true_eq, Int.natAbs_natCast, L2.upd_same, L2.upd_upd, L2.cxOf, Mx.fsL, Mx.gFld, L2.gCons, L2.gNil, L2.tDNewK, Mx.optV, *])

section
variable {P : Program} {w : World} {K : PySem.W.Frag} {mg : Str → Option Value} {base : Heap} {C : Addr}

def sp_Line_init (K : PySem.W.Frag) (C : Addr) : Sp := fun vs H Q _ => ∃ (l dx t : Addr) (pn pb b : Int), vs = [.ref l, .ref t, .int b] ∧ H l = some (.ins C dx []) ∧ H t = some (.tup [.int pn, .int pb]) ∧
  ∀ c H', H c = none → LineAt C H' l c ⟨pn, pb, b, [], 0, none⟩ → Stp [l] H H' → Q .non H'
theorem sc_Line_init : FnScope ["self", "pace", "begin"] ["self", "pace", "begin"] (defScope s_Line_init) := ⟨rfl, rfl, rfl, by decide +kernel, rfl, by decide +kernel, by decide +kernel⟩
theorem ok_Line_init {f : Addr} {fd : FuncData} (F : Fun K "__init__" "Line.__init__" s_Line_init f fd) (T : TL K C) : FnOk P w K mg base CX0 1 f fd ["self", "pace", "begin"] (sp_Line_init K C) := by
  refine F.ok sc_Line_init (fun vs H Q E h => ?_) (fun cdv A outer s H vs Q E hr h => ?_)
  · obtain ⟨l, dx, t, pn, pb, b, rfl, _⟩ := h
    rfl
  · obtain ⟨l, dx, t, pn, pb, b, rfl, hl, ht, k⟩ := h
    refine ⟨_, pss_cons (ps_fldA (pv 0) (pv 1) rfl)
      (pss_cons (ps_fldA (pv 0) (pv 2) rfl) (pss_cons (ps_fldA (pv 0) pe_dnewK rfl) (pss_cons (ps_fldA (pv 0) pe_int rfl) (pss_one (ps_fldA (pv 0) pe_non rfl))))), ?_⟩
    obtain ⟨cl, a1, a3, a4, a5, a6⟩ := T
    have htl : t ≠ l := ne_of ht hl (fun z => nomatch z)
    walk_at "rds"
    intro H1 g1 s1
    walk_at "rds"
    intro H2 g2 s2
    walk_at "rds"
    intro c hc
    have s3 := Stp.new (o := .dK []) hc
    have e3 : upd H2 c (.dK []) c = some (.dK []) := upd_same
    have g3 := s3.keep _ _ g2 (by simp)
    generalize upd H2 c (.dK []) = H3 at *
    have hcl : l ≠ c := ne_of_none g2 hc
    walk_at "rds"
    intro H4 g4 s4
    walk_at "rds"
    intro H5 g5 s5
    walk_at "rds"
    intro H6 g6 s6
    have hc0 : H c = none := s1.free (s2.free hc (by simpa using hcl.symm)) (by simpa using hcl.symm)
    have t6 : Stp [l] H H6 := (s1.trans (s2.trans (s3.trans (s4.trans (s5.trans s6))))).sub (by simp)
    exact k c H6 hc0 ⟨⟨dx, t, g6, t6.tup _ _ ht⟩, s6.keep _ _ (s5.keep _ _ (s4.keep _ _ e3 (by simpa using hcl.symm)) (by simpa using hcl.symm)) (by simpa using hcl.symm)⟩ t6

def sp_Line_room (C : Addr) : Sp := fun vs H Q _ => ∃ (l c : Addr) (s : LineS), vs = [.ref l] ∧ LineAt C H l c s ∧ Q (.int s.room) H
theorem sc_Line_room : FnScope ["self"] ["self"] (defScope s_Line_room) := ⟨rfl, rfl, rfl, by decide +kernel, rfl, by decide +kernel, by decide +kernel⟩
theorem ok_Line_room {f : Addr} {fd : FuncData} (F : Fun K "room" "Line.room" s_Line_room f fd) (T : TL K C) {tm : Tok} (hM : mg "MOST" = some (.int 1000 tm)) : FnOk P w K mg base CX0 1 f fd ["self"] (sp_Line_room C) := by
  refine F.ok sc_Line_room (fun vs H Q E h => ?_) (fun cdv A outer s H vs Q E hr h => ?_)
  · obtain ⟨l, c, s, rfl, _⟩ := h
    rfl
  · obtain ⟨l, c, s, rfl, hL, k⟩ := h
    refine ⟨_, pss_one (ps_ret (pe_ifExp (pt_cmpR op_isN (pe_fld (pv 0) rfl) pe_non (nomark _)) (pe_glob (v := .int 1000) (by rfl) hM ⟨_, rfl⟩) (pe_fld (pv 0) rfl))), ?_⟩
    obtain ⟨cl, a1, a3, a4, a5, a6⟩ := T
    obtain ⟨dx, tp, h1, htp⟩ := hL.ob
    walk_at "rds"
    unfold LineS.room at k
    cases e : s.many with
    | none =>
      rw [e] at k
      walk_at "rds"
      exact k
    | some m =>
      rw [e] at k
      walk_at "rds"
      exact k

def sp_Line_begun (C : Addr) : Sp := fun vs H Q _ => ∃ (l c : Addr) (s : LineS) (t : Int), vs = [.ref l, .int t] ∧ LineAt C H l c s ∧ Q (.bl (s.begun t)) H
theorem sc_Line_begun : FnScope ["self", "beat"] ["self", "beat"] (defScope s_Line_begun) := ⟨rfl, rfl, rfl, by decide +kernel, rfl, by decide +kernel, by decide +kernel⟩
theorem ok_Line_begun {f : Addr} {fd : FuncData} (F : Fun K "begun" "Line.begun" s_Line_begun f fd) (T : TL K C) : FnOk P w K mg base CX0 1 f fd ["self", "beat"] (sp_Line_begun C) := by
  refine F.ok sc_Line_begun (fun vs H Q E h => ?_) (fun cdv A outer s H vs Q E hr h => ?_)
  · obtain ⟨l, c, s, t, rfl, _⟩ := h
    rfl
  · obtain ⟨l, c, s, t, rfl, hL, k⟩ := h
    refine ⟨_, pss_one (ps_ret (pe_cmpR op_ge (pv 1) (pe_fld (pv 0) rfl) (nomark _))), ?_⟩
    obtain ⟨cl, a1, a3, a4, a5, a6⟩ := T
    obtain ⟨dx, tp, h1, htp⟩ := hL.ob
    walk_at "rds"
    exact k

def sp_Line_wanted (C : Addr) : Sp := fun vs H Q _ => ∃ (l c : Addr) (s : LineS) (t : Int), vs = [.ref l, .int t] ∧ LineAt C H l c s ∧ LineOk s ∧ ∀ p H', H p = none → Stp [] H H' → H' p = some (.lst ((s.want t).map V.int)) → Q (.ref p) H'
theorem sc_Line_wants : FnScope ["self", "beat"] ["self", "beat"] (defScope s_Line_wants) := ⟨rfl, rfl, rfl, by decide +kernel, rfl, by decide +kernel, by decide +kernel⟩
theorem ok_Line_wants {f : Addr} {fd : FuncData} (F : Fun K "wants" "Line.wants" s_Line_wants f fd) (T : TL K C) (G : OwnF P w K mg base "wanted" 2 ["pace", "passed"] sp_wanted) : FnOk P w K mg base CX0 3 f fd ["self", "beat"] (sp_Line_wanted C) := by
  refine F.ok sc_Line_wants (fun vs H Q E h => ?_) (fun cdv A outer s H vs Q E hr h => ?_)
  · obtain ⟨l, c, s, t, rfl, _⟩ := h
    rfl
  · obtain ⟨l, c, s, t, rfl, hL, hO, k⟩ := h
    refine ⟨_, pss_one (ps_ret (p_call G hr (pa_cons (pe_fld (pv 0) rfl) (pa_cons (pe_op op_sub (pv 1) (pe_fld (pv 0) rfl)) pa_nil)))), ?_⟩
    obtain ⟨cl, a1, a3, a4, a5, a6⟩ := T
    obtain ⟨dx, tp, h1, htp⟩ := hL.ob
    obtain ⟨b1, b2, b3, b4, _, _⟩ := hO
    walk_at "rds"
    exact ⟨tp, s.pn, s.pb, t - s.beg, rfl, htp, ⟨b1, b2⟩, ⟨b3, b4⟩, k⟩

def sp_Line_bool (C : Addr) (g : LineS → Int → Bool) : Sp := fun vs H Q _ => ∃ (l c : Addr) (s : LineS) (t : Int), vs = [.ref l, .int t] ∧ LineAt C H l c s ∧ LineOk s ∧ ∀ H', Stp [] H H' → Q (.bl (g s t)) H'
theorem sc_Line_over : FnScope ["self", "beat"] ["self", "beat"] (defScope s_Line_over) := ⟨rfl, rfl, rfl, by decide +kernel, rfl, by decide +kernel, by decide +kernel⟩
theorem atI_last1 {x : V} : atI [x] (-1) = some x := rfl
theorem atI_last2 {x y : V} : atI [x, y] (-1) = some y := rfl
theorem ok_Line_over {f : Addr} {fd : FuncData} (F : Fun K "over" "Line.over" s_Line_over f fd) (T : TL K C) (G : OwnM P w K mg base C "wants" 3 ["self", "beat"] (sp_Line_wanted C)) : FnOk P w K mg base CX0 4 f fd ["self", "beat"] (sp_Line_bool C LineS.over) := by
  refine F.ok sc_Line_over (fun vs H Q E h => ?_) (fun cdv A outer s H vs Q E hr h => ?_)
  · obtain ⟨l, c, s, t, rfl, _⟩ := h
    rfl
  · obtain ⟨l, c, s, t, rfl, hL, hO, k⟩ := h
    refine ⟨_, pss_one (ps_ret (pe_and (pe_cmpR op_notN (pe_fld (pv 0) rfl) pe_non (nomark _)) (pe_one (pe_cmpR op_ge (pe_ix ix_list (p_meth G hr (pv 0) (pa_cons (pv 1) pa_nil)) (pe_un un_neg pe_int) (fun _ _ => rfl)) (pe_fld (pv 0) rfl) (nomark _))))), ?_⟩
    obtain ⟨cl, a1, a3, a4, a5, a6⟩ := T
    obtain ⟨dx, tp, h1, htp⟩ := hL.ob
    unfold LineS.over at k
    cases e : s.many with
    | none =>
      rw [e] at k
      walk_at "rds"
      exact k H Stp.refl
    | some m =>
      rw [e] at k
      walk_at "rds"
      refine ⟨l, c, s, t, rfl, hL, hO, fun p H' hp hs hl => ?_⟩
      refine ⟨p, _, _, .int (s.last t), rfl, rfl, .inl (.inl hl), ?_, ?_⟩
      · unfold LineS.want LineS.last
        split
        · exact atI_last1
        · exact atI_last2
      · have h1' := hs.keep _ _ h1 (by simp)
        have := k H' hs
        walk_at "rds" <;> exact this

/-! the list of what any([.. for at in wanted]) goes over -/
theorem sc_Line_lacks : FnScope ["self", "beat", "at"] ["self", "beat"] (defScope s_Line_lacks) := ⟨rfl, rfl, rfl, by decide +kernel, rfl, by decide +kernel, by decide +kernel⟩
theorem ok_Line_lacks {f : Addr} {fd : FuncData} (F : Fun K "lacks" "Line.lacks" s_Line_lacks f fd) (T : TL K C) (B : Blt mg) (GB : OwnM P w K mg base C "begun" 1 ["self", "beat"] (sp_Line_begun C)) (GO : OwnM P w K mg base C "over" 4 ["self", "beat"] (sp_Line_bool C LineS.over))
    (GW : OwnM P w K mg base C "wants" 3 ["self", "beat"] (sp_Line_wanted C)) : FnOk P w K mg base CX0 5 f fd ["self", "beat"] (sp_Line_bool C LineS.lacks) := by
  refine F.ok sc_Line_lacks (fun vs H Q E h => ?_) (fun cdv A outer s H vs Q E hr h => ?_)
  · obtain ⟨l, c, s, t, rfl, _⟩ := h
    rfl
  · obtain ⟨l, c, s, t, rfl, hL, hO, k⟩ := h
    refine ⟨_, pss_cons (ps_if (PW.pt (pw_or (pt_not (pt_val (p_meth GB (hr.mono (by decide)) (pv 0) (pa_cons (pv 1) pa_nil)))) (pw_or1 (pt_val (p_meth GO hr (pv 0) (pa_cons (pv 1) pa_nil)))))) (pss_one (ps_ret pe_bl)) pss_nil)
      (pss_one (ps_ret (pe_callB (cr_any rfl) (by rfl) B.any PyProof.Rows.boot_any (pa_cons (pe_lc (own := [("at", 2)]) (te := tDNotIn (tVar 2) (tFld K (tVar 0) "came")) rfl sc_Line_lacks.nd (pi_list (p_meth GW (hr.mono (by decide)) (pv 0) (pa_cons (pv 1) pa_nil))) (blkOk_by (N := ["self", "beat", "at"]) (sc := defScope s_Line_lacks) (by decide +kernel))
        (fun _ _ _ _ _ => pg_name (i := 2) sc_Line_lacks.nd rfl (.inl rfl)) (fun _ _ _ _ _ => pts_nil) (fun _ _ _ _ _ => pe_cmp (pc_dnotin (hu_of hr) (pv 2) (pe_fld (pv 0) rfl)))) pa_nil)))), ?_⟩
    obtain ⟨cl, a1, a3, a4, a5, a6⟩ := T
    obtain ⟨dx, tp, h1, htp⟩ := hL.ob
    walk_at "rds"
    refine ⟨l, c, s, t, rfl, hL, ?_⟩
    walk_at "rds"
    unfold LineS.lacks at k
    cases eb : s.begun t with
    | false =>
      rw [eb] at k
      walk_at "rds"
      exact k H Stp.refl
    | true =>
      walk_at "rds"
      refine ⟨l, c, s, t, rfl, hL, hO, fun H1 hs1 => ?_⟩
      walk_at "rd"
      cases eo : s.over t with
      | true =>
        rw [eb, eo] at k
        walk_at "rd"
        exact k H1 hs1
      | false =>
        rw [eb, eo] at k
        walk_at "rd"
        have hL1 := hL.st0 hs1
        have h1' := hs1.keep _ _ h1 (by simp)
        refine ⟨_, rfl, l, dx, _, rfl, h1', ?_, ?_⟩
        · walk_at "rd"
        refine ⟨_, rfl, ?_⟩
        refine ⟨l, c, s, t, rfl, hL1, hO, fun p H2 hp hs2 hl => ?_⟩
        have hL2 := hL1.st0 hs2
        have h2' := hs2.keep _ _ h1' (by simp)
        refine ⟨p, rfl, ⟨_, .inl (.inl hl)⟩, lc_pure (K := K) (a := p) (H9 := H2) (i := 2) (te := tDNotIn (tVar 2) (tFld K (tVar 0) "came")) (σ := [some (.ref l), some (.int t), none]) (Q := fun x H => rAny K [x] H Q) (fun x => match x with | .int i => .bl (!s.has i) | _ => .non) (.inl (.inl hl)) ?_ (fun x hx H Q' hs q => ?_) (fun D H3 hD hs hl3 => ?_)⟩
        · rw [List.length_map]
          unfold LineS.want
          split <;> simp
        · obtain ⟨i, hi, rfl⟩ := List.mem_map.mp hx
          have h3' := hs.keep _ _ h2' (by simp)
          have hL3 := hL2.st0 hs
          refine ⟨_, rfl, _, rfl, l, C, dx, _, _, rfl, h3', cl, a4, rfl, c, _, rfl, DGet.k (k := Sum.inl i) hL3.dc, ?_⟩
          rw [cam_get, Option.isSome_map]
          exact q
        · refine ⟨D, (s.want t).map fun i => !s.has i, rfl, .inl (.inl ?_), ?_⟩
          · rw [hl3, List.map_map, List.map_map]
            rfl
          · have := k H3 ((hs1.trans hs2).trans hs)
            simp only [Bool.true_and, Bool.not_false] at this
            rw [List.any_map]
            exact this
end
end Mx

namespace Mx
open PySem L2
set_option hygiene false in
local macro_rules | `(tactic| walk_at "rd") => `(tactic| try simp only [L2.start, List.map_cons, List.map_nil, List.length_cons, List.length_nil, Nat.reduceAdd, Nat.reduceSub, Nat.reduceLT, Nat.reduceLeDiff, List.replicate_succ, List.replicate_zero, List.append_nil, List.nil_append, List.cons_append, List.set_cons_zero, List.set_cons_succ, List.getElem?_cons_zero, List.getElem?_cons_succ,
  Option.some.injEq, List.cons.injEq, and_true, true_and, and_assoc, reduceCtorEq, L2.V.int.injEq, L2.V.ref.injEq, L2.V.bl.injEq, L2.V.str.injEq, L2.V.ty.injEq, L2.HO.ins.injEq, L2.HO.lst.injEq, L2.HO.tup.injEq, L2.HO.dK.injEq, exists_eq_left', exists_eq_left, exists_eq_right, exists_eq', exists_eq, exists_and_left, exists_and_right, reduceIte, Bool.false_eq_true, Bool.not_true, Bool.not_false,
  L2.tSeq, L2.tIfS, L2.tRet, L2.tRetN, L2.tNext, L2.tAsg, L2.gName, L2.tVar, L2.tC, L2.tCons, L2.tNil, L2.tCB, L2.tOp, L2.tUn, L2.tTup, L2.tLst, L2.tB, L2.tOr, L2.tAnd, L2.tNot, L2.tAndV, L2.tOrV, L2.tNotV, L2.tIf, L2.tTest, L2.tChain, L2.rI, L2.rI0, L2.rU, L2.tDrop, L2.tNever, L2.tCall, L2.tMeth, L2.tMake, L2.rGcd, L2.tFld, L2.sFld, L2.sFldAug, Mx.sFldA, Mx.sFldAugA, L2.rAdd, L2.rSub, L2.rEq, L2.rNe, L2.tDGet, L2.tDIn, L2.tDNotIn, L2.sDPut,
  Mx.isi_int_bool, Mx.isi_int_int, Mx.isi_int_tuple, Mx.isi_int_list, Mx.isi_int_str, Mx.scal_int, Mx.scal_str, Mx.scal_bl, Mx.ofString_inj, Mx.ofString_beq, Mx.lk_cons, Mx.pf_nil, Mx.pf_cons, Mx.sz1, Mx.sz2, List.lookup_nil, String.reduceEq, decide_true, decide_false, decide_eq_true_eq, Int.natAbs_natCast, L2.upd_same, L2.upd_upd, L2.cxOf, Mx.fsL, Mx.gFld, L2.gCons, L2.gNil, L2.tDNewK, Mx.optV])
set_option hygiene false in
local macro_rules | `(tactic| walk_at "rds") => `(tactic| try simp only [L2.start, List.map_cons, List.map_nil, List.length_cons, List.length_nil, Nat.reduceAdd, Nat.reduceSub, Nat.reduceLT, Nat.reduceLeDiff, List.replicate_succ, List.replicate_zero, List.append_nil, List.nil_append, List.cons_append, List.set_cons_zero, List.set_cons_succ, List.getElem?_cons_zero, List.getElem?_cons_succ,
  Option.some.injEq, List.cons.injEq, and_true, true_and, and_assoc, reduceCtorEq, L2.V.int.injEq, L2.V.ref.injEq, L2.V.bl.injEq, L2.V.str.injEq, L2.V.ty.injEq, L2.HO.ins.injEq, L2.HO.lst.injEq, L2.HO.tup.injEq, L2.HO.dK.injEq, exists_eq_left', exists_eq_left, exists_eq_right, exists_eq', exists_eq, exists_and_left, exists_and_right, reduceIte, Bool.false_eq_true, Bool.not_true, Bool.not_false,
  L2.tSeq, L2.tIfS, L2.tRet, L2.tRetN, L2.tNext, L2.tAsg, L2.gName, L2.tVar, L2.tC, L2.tCons, L2.tNil, L2.tCB, L2.tOp, L2.tUn, L2.tTup, L2.tLst, L2.tB, L2.tOr, L2.tAnd, L2.tNot, L2.tAndV, L2.tOrV, L2.tNotV, L2.tIf, L2.tTest, L2.tChain, L2.rI, L2.rI0, L2.rU, L2.tDrop, L2.tNever, L2.tCall, L2.tMeth, L2.tMake, L2.rGcd, L2.tFld, L2.sFld, L2.sFldAug, Mx.sFldA, Mx.sFldAugA, L2.rAdd, L2.rSub, L2.rEq, L2.rNe, L2.tDGet, L2.tDIn, L2.tDNotIn, L2.sDPut,
  Mx.isi_int_bool, Mx.isi_int_int, Mx.isi_int_tuple, Mx.isi_int_list, Mx.isi_int_str, Mx.scal_int, Mx.scal_str, Mx.scal_bl, Mx.ofString_inj, Mx.ofString_beq, Mx.lk_cons, Mx.pf_nil, Mx.pf_cons, Mx.sz1, Mx.sz2, List.lookup_nil, String.reduceEq, decide_true, decide_false, decide_eq_true_eq, Int.natAbs_natCast, L2.upd_same, L2.upd_upd, L2.cxOf, Mx.fsL, Mx.gFld, L2.gCons, L2.gNil, L2.tDNewK, Mx.optV, *])

theorem look_mem {c : List (Int × Int)} {i n : Int} (h : look c i = some n) : (i, n) ∈ c := by
  unfold look at h
  cases e : c.find? fun p => decide (p.1 = i) with
  | none => rw [e] at h; cases h
  | some p =>
    rw [e] at h
    have h1 := List.find?_some e
    have h2 := List.mem_of_find?_eq_some e
    have h3 : p.2 = n := Option.some.inj h
    have h4 : p.1 = i := of_decide_eq_true h1
    rw [← h3, ← h4]
    exact h2
theorem LineS.atw {s : LineS} {i : Int} (h : s.has i = true) : look s.came i = some (s.at i) := by
  unfold LineS.has at h
  unfold LineS.at
  cases e : look s.came i with
  | none => rw [e] at h; cases h
  | some n => rfl
theorem LineOk.small {s : LineS} (h : LineOk s) {i n : Int} (e : look s.came i = some n) : -999 ≤ n ∧ n ≤ 999 := h.cm _ (look_mem e)
theorem ready_has {s : LineS} {t : Int} (h : s.ready t = true) : ∀ i ∈ s.want t, s.has i = true := by
  unfold LineS.ready LineS.lacks at h
  cases e1 : s.begun t <;> cases e2 : s.over t <;> rw [e1, e2] at h <;> simp at h
  exact h
section
variable {P : Program} {w : World} {K : PySem.W.Frag} {mg : Str → Option Value} {base : Heap} {C : Addr}
theorem sc_Line_ready : FnScope ["self", "beat"] ["self", "beat"] (defScope s_Line_ready) := ⟨rfl, rfl, rfl, by decide +kernel, rfl, by decide +kernel, by decide +kernel⟩
theorem ok_Line_ready {f : Addr} {fd : FuncData} (F : Fun K "ready" "Line.ready" s_Line_ready f fd) (GB : OwnM P w K mg base C "begun" 1 ["self", "beat"] (sp_Line_begun C)) (GO : OwnM P w K mg base C "over" 4 ["self", "beat"] (sp_Line_bool C LineS.over))
    (GL : OwnM P w K mg base C "lacks" 5 ["self", "beat"] (sp_Line_bool C LineS.lacks)) : FnOk P w K mg base CX0 6 f fd ["self", "beat"] (sp_Line_bool C LineS.ready) := by
  refine F.ok sc_Line_ready (fun vs H Q E h => ?_) (fun cdv A outer s H vs Q E hr h => ?_)
  · obtain ⟨l, c, s, t, rfl, _⟩ := h
    rfl
  · obtain ⟨l, c, s, t, rfl, hL, hO, k⟩ := h
    refine ⟨_, pss_one (ps_ret (pe_and (p_meth GB (hr.mono (by decide)) (pv 0) (pa_cons (pv 1) pa_nil)) (pe_and (pe_not (p_meth GO (hr.mono (by decide)) (pv 0) (pa_cons (pv 1) pa_nil))) (pe_one (pe_not (p_meth GL hr (pv 0) (pa_cons (pv 1) pa_nil))))))), ?_⟩
    obtain ⟨dx, tp, h1, htp⟩ := hL.ob
    walk_at "rds"
    refine ⟨l, c, s, t, rfl, hL, ?_⟩
    walk_at "rds"
    unfold LineS.ready at k
    cases eb : s.begun t with
    | false =>
      rw [eb] at k
      walk_at "rds"
      exact k H Stp.refl
    | true =>
      walk_at "rds"
      refine ⟨l, c, s, t, rfl, hL, hO, fun H1 hs1 => ?_⟩
      have h1' := hs1.keep _ _ h1 (by simp)
      have hL1 := hL.st0 hs1
      cases eo : s.over t with
      | true =>
        rw [eb, eo] at k
        have := k H1 hs1
        walk_at "rds" <;> exact this
      | false =>
        rw [eb, eo] at k
        walk_at "rds"
        refine ⟨l, c, s, t, rfl, hL1, hO, fun H2 hs2 => ?_⟩
        have := k H2 (hs1.trans hs2)
        simp only [Bool.true_and, Bool.not_false] at this
        walk_at "rds" <;> exact this

def sp_Line_value (C : Addr) : Sp := fun vs H Q _ => ∃ (l c : Addr) (s : LineS) (t : Int), vs = [.ref l, .int t] ∧ LineAt C H l c s ∧ LineOk s ∧ s.ready t = true ∧ ∀ p H', H p = none → Stp [] H H' → H' p = some (.tup (frac (s.value t))) → Q (.ref p) H'
theorem sc_Line_value : FnScope ["self", "beat", "low", "rest", "beats"] ["self", "beat"] (defScope s_Line_value) := ⟨rfl, rfl, rfl, by decide +kernel, rfl, by decide +kernel, by decide +kernel⟩
theorem ok_Line_value {f : Addr} {fd : FuncData} (F : Fun K "value" "Line.value" s_Line_value f fd) (T : TL K C) (G : OwnF P w K mg base "spot" 1 ["pace", "passed"] sp_spot) (GR : OwnF P w K mg base "ratio" 1 ["top", "bottom"] sp_ratio) :
    FnOk P w K mg base CX0 2 f fd ["self", "beat"] (sp_Line_value C) := by
  refine F.ok sc_Line_value (fun vs H Q E h => ?_) (fun cdv A outer s H vs Q E hr h => ?_)
  · obtain ⟨l, c, s, t, rfl, _⟩ := h
    rfl
  · obtain ⟨l, c, s, t, rfl, hL, hO, hR, k⟩ := h
    have hu := hu_of hr
    refine ⟨_, pss_cons (ps_asg (p_call G hr (pa_cons (pe_fld (pv 0) rfl) (pa_cons (pe_op op_sub (pv 1) (pe_fld (pv 0) rfl)) pa_nil))) (pg_tup rfl (pgs_cons (pg_name (i := 2) sc_Line_value.nd rfl (.inl rfl)) (pgs_cons (pg_name (i := 3) sc_Line_value.nd rfl (.inl rfl)) pgs_nil))))
      (pss_cons (ps_if (pt_cmpR op_eq (pv 3) pe_int (nomark _)) (pss_one (ps_ret (p_call GR hr (pa_cons (pe_dget hu (pe_fld (pv 0) rfl) (pv 2) (fun _ _ => rfl)) (pa_cons pe_int pa_nil))))) pss_nil)
      (pss_cons (ps_set (i := 4) sc_Line_value.nd rfl (Or.inl rfl) (pe_ix ix_tup (pe_fld (pv 0) rfl) pe_int (fun _ _ => rfl)))
      (pss_one (ps_ret (p_call GR hr (pa_cons (pe_op op_add (pe_op op_mul (pe_dget hu (pe_fld (pv 0) rfl) (pv 2) (fun _ _ => rfl)) (pe_op op_sub (pv 4) (pv 3))) (pe_op op_mul (pe_dget hu (pe_fld (pv 0) rfl) (pe_op op_add (pv 2) pe_int) (fun _ _ => rfl)) (pv 3))) (pa_cons (pv 4) pa_nil))))))), ?_⟩
    obtain ⟨cl, a1, a3, a4, a5, a6⟩ := T
    obtain ⟨dx, tp, h1, htp⟩ := hL.ob
    have hw := ready_has hR
    unfold LineS.want at hw
    have hB := hO
    obtain ⟨b1, b2, b3, b4, _, _⟩ := hB
    walk_at "rds"
    refine ⟨tp, s.pn, s.pb, t - s.beg, rfl, htp, ⟨b1, b2⟩, ⟨b3, b4⟩, fun p H1 hp hs hl => ⟨p, _, rfl, .inl (.inl hl), rfl, ?_⟩⟩
    rw [show lowN (t - s.beg) s.pn s.pb = s.low t from rfl, show restN (t - s.beg) s.pn s.pb = s.rest t from rfl]
    have h1' := hs.keep _ _ h1 (by simp)
    have hL1 := hL.st0 hs
    have hd := hL1.dc
    have hlow : s.has (s.low t) = true := by
      apply hw
      split <;> simp
    have e1 := LineS.atw hlow
    have b1 := hO.small e1
    have htp1 := hs.tup _ _ htp
    have g1 : DGet H1 c (.int (s.low t)) (some (.int (s.at (s.low t)))) := by
      have := DGet.k (k := (Sum.inl (s.low t) : Key)) hd
      rw [cam_get, e1] at this
      exact this
    unfold LineS.value at k
    by_cases e : s.rest t = 0
    · rw [if_pos e] at k
      walk_at "rds"
      refine ⟨_, g1, _, _, rfl, by omega, by decide, fun q H2 hq hs2 hl2 => ?_⟩
      have hq0 := hs.free hq (by simp)
      exact k q _ hq0 (hs.trans hs2) hl2
    · rw [if_neg e] at k hw
      have hlow2 : s.has (s.low t + 1) = true := hw _ (by simp)
      have e2 := LineS.atw hlow2
      have b2 := hO.small e2
      have g2 : DGet H1 c (.int (s.low t + 1)) (some (.int (s.at (s.low t + 1)))) := by
        have := DGet.k (k := (Sum.inl (s.low t + 1) : Key)) hd
        rw [cam_get, e2] at this
        exact this
      obtain ⟨o1, o2, o3, o4, _, _⟩ := hO
      have r0 : 0 ≤ s.rest t := Int.emod_nonneg _ (by omega)
      have r1 : s.rest t < s.pb := Int.emod_lt_of_pos _ (by omega)
      walk_at "rds"
      refine ixT_1 (.inl htp1) ?_
      walk_at "rds"
      refine ⟨_, g1, _, rfl, .inl ⟨by omega, by omega⟩, _, g2, _, rfl, .inl ⟨by omega, by omega⟩, _, _, rfl, by omega, ?_, fun q H2 hq hs2 hl2 => ?_⟩
      · refine Nat.lt_of_lt_of_le (show s.pb.natAbs < 2 ^ 4 by omega) (Nat.pow_le_pow_right (by decide) (by decide))
      · have hq0 := hs.free hq (by simp)
        exact k q _ hq0 (hs.trans hs2) hl2
end
end Mx
namespace Mx
open PySem L2
set_option hygiene false in
local macro_rules | `(tactic| walk_at "rd") => `(tactic| try simp only [L2.start, List.map_cons, List.map_nil, List.length_cons, List.length_nil, Nat.reduceAdd, Nat.reduceSub, Nat.reduceLT, Nat.reduceLeDiff, List.replicate_succ, List.replicate_zero, List.append_nil, List.nil_append, List.cons_append, List.set_cons_zero, List.set_cons_succ, List.getElem?_cons_zero, List.getElem?_cons_succ,
  Option.some.injEq, List.cons.injEq, and_true, true_and, and_assoc, reduceCtorEq, L2.V.int.injEq, L2.V.ref.injEq, L2.V.bl.injEq, L2.V.str.injEq, L2.V.ty.injEq, L2.HO.ins.injEq, L2.HO.lst.injEq, L2.HO.tup.injEq, L2.HO.dK.injEq, exists_eq_left', exists_eq_left, exists_eq_right, exists_eq', exists_eq, exists_and_left, exists_and_right, reduceIte, Bool.false_eq_true, Bool.not_true, Bool.not_false,
  L2.tSeq, L2.tIfS, L2.tRet, L2.tRetN, L2.tNext, L2.tAsg, L2.gName, L2.tVar, L2.tC, L2.tCons, L2.tNil, L2.tCB, L2.tOp, L2.tUn, L2.tTup, L2.tLst, L2.tB, L2.tOr, L2.tAnd, L2.tNot, L2.tAndV, L2.tOrV, L2.tNotV, L2.tIf, L2.tTest, L2.tChain, L2.rI, L2.rI0, L2.rU, L2.tDrop, L2.tNever, L2.tCall, L2.tMeth, L2.tMake, L2.rGcd, L2.tFld, L2.sFld, L2.sFldAug, Mx.sFldA, Mx.sFldAugA, L2.rAdd, L2.rSub, L2.rEq, L2.rNe, L2.tDGet, L2.tDIn, L2.tDNotIn, L2.sDPut,
  Mx.isi_int_bool, Mx.isi_int_int, Mx.isi_int_tuple, Mx.isi_int_list, Mx.isi_int_str, Mx.scal_int, Mx.scal_str, Mx.scal_bl, Mx.ofString_inj, Mx.ofString_beq, Mx.lk_cons, Mx.pf_nil, Mx.pf_cons, Mx.sz1, Mx.sz2, List.lookup_nil, String.reduceEq, decide_true, decide_false, decide_eq_true_eq, Int.natAbs_natCast, L2.upd_same, L2.upd_upd, L2.cxOf, Mx.fsL, Mx.gFld, L2.gCons, L2.gNil, L2.tDNewK, L2.tDSetd, Mx.optV])
set_option hygiene false in
local macro_rules | `(tactic| walk_at "rds") => `(tactic| try simp only [L2.start, List.map_cons, List.map_nil, List.length_cons, List.length_nil, Nat.reduceAdd, Nat.reduceSub, Nat.reduceLT, Nat.reduceLeDiff, List.replicate_succ, List.replicate_zero, List.append_nil, List.nil_append, List.cons_append, List.set_cons_zero, List.set_cons_succ, List.getElem?_cons_zero, List.getElem?_cons_succ,
  Option.some.injEq, List.cons.injEq, and_true, true_and, and_assoc, reduceCtorEq, L2.V.int.injEq, L2.V.ref.injEq, L2.V.bl.injEq, L2.V.str.injEq, L2.V.ty.injEq, L2.HO.ins.injEq, L2.HO.lst.injEq, L2.HO.tup.injEq, L2.HO.dK.injEq, exists_eq_left', exists_eq_left, exists_eq_right, exists_eq', exists_eq, exists_and_left, exists_and_right, reduceIte, Bool.false_eq_true, Bool.not_true, Bool.not_false,
  L2.tSeq, L2.tIfS, L2.tRet, L2.tRetN, L2.tNext, L2.tAsg, L2.gName, L2.tVar, L2.tC, L2.tCons, L2.tNil, L2.tCB, L2.tOp, L2.tUn, L2.tTup, L2.tLst, L2.tB, L2.tOr, L2.tAnd, L2.tNot, L2.tAndV, L2.tOrV, L2.tNotV, L2.tIf, L2.tTest, L2.tChain, L2.rI, L2.rI0, L2.rU, L2.tDrop, L2.tNever, L2.tCall, L2.tMeth, L2.tMake, L2.rGcd, L2.tFld, L2.sFld, L2.sFldAug, Mx.sFldA, Mx.sFldAugA, L2.rAdd, L2.rSub, L2.rEq, L2.rNe, L2.tDGet, L2.tDIn, L2.tDNotIn, L2.sDPut,
  Mx.isi_int_bool, Mx.isi_int_int, Mx.isi_int_tuple, Mx.isi_int_list, Mx.isi_int_str, Mx.scal_int, Mx.scal_str, Mx.scal_bl, Mx.ofString_inj, Mx.ofString_beq, Mx.lk_cons, Mx.pf_nil, Mx.pf_cons, Mx.sz1, Mx.sz2, List.lookup_nil, String.reduceEq, decide_true, decide_false, decide_eq_true_eq, Int.natAbs_natCast, L2.upd_same, L2.upd_upd, L2.cxOf, Mx.fsL, Mx.gFld, L2.gCons, L2.gNil, L2.tDNewK, L2.tDSetd, Mx.optV, *])

section
variable {P : Program} {w : World} {K : PySem.W.Frag} {mg : Str → Option Value} {base : Heap} {C : Addr}
/-- numbers that a parcel may bring -/
structure ParOk (s : LineS) (i : Int) (ns : List Int) : Prop where
  i0 : 0 ≤ i
  i1 : i ≤ 999
  n0 : 1 ≤ ns.length
  n1 : ns.length ≤ 32
  nr : ∀ n ∈ ns, -999 ≤ n ∧ n ≤ 999
  rm : i + (ns.length : Int) ≤ s.room
def sp_Line_take (K : PySem.W.Frag) (C : Addr) : Sp := fun vs H Q _ => ∃ (l c a : Addr) (s : LineS) (i : Int) (ns : List Int), vs = [.ref l, .int i, .ref a] ∧ LineAt C H l c s ∧ SqL K H a (ns.map V.int) ∧ a ≠ l ∧ a ≠ c ∧ ParOk s i ns ∧ s.came.length ≤ 90000 ∧
  ∀ H', LineAt C H' l c (s.take i ns) → Stp [l, c] H H' → Q .non H'
theorem sc_Line_take : FnScope ["self", "place", "numbers", "behind", "at", "number"] ["self", "place", "numbers"] (defScope s_Line_take) := ⟨rfl, rfl, rfl, by decide +kernel, rfl, by decide +kernel, by decide +kernel⟩
theorem ok_Line_take {f : Addr} {fd : FuncData} (F : Fun K "take" "Line.take" s_Line_take f fd) (T : TL K C) (B : Blt mg) {tm : Tok} (hM : mg "MOST" = some (.int 1000 tm)) (GW : OwnF P w K mg base "is_whole" 1 ["number", "low", "high"] sp_is_whole)
    (GR : OwnM P w K mg base C "room" 1 ["self"] (sp_Line_room C)) : FnOk P w K mg base CX0 2 f fd ["self", "place", "numbers"] (sp_Line_take K C) := by
  refine F.ok sc_Line_take (fun vs H Q E h => ?_) (fun cdv A outer s H vs Q E hr h => ?_)
  · obtain ⟨l, c, a, s, i, ns, rfl, _⟩ := h
    rfl
  · obtain ⟨l, c, a, s, i, ns, rfl, hL, ha, hal, hac, hP, hlen, k⟩ := h
    refine ⟨_, pss_cons (ps_if (pt_not (pt_val (p_call GW hr (pa_cons (pv 1) (pa_cons pe_int (pa_cons (pe_op op_sub (pe_glob (v := .int 1000) (by rfl) hM ⟨_, rfl⟩) pe_int) pa_nil)))))) (pss_one ps_never) pss_nil)
      (pss_cons (ps_if (pt_not (pt_val (p_call GW hr (pa_cons (pe_callB call_len_seq (by rfl) B.len PySem.boot_len (pa_cons (pv 2) pa_nil)) (pa_cons pe_int (pa_cons pe_int pa_nil)))))) (pss_one ps_never) pss_nil)
      (pss_cons (ps_if (pt_not (pt_val (pe_callB (cr_all rfl) (by rfl) B.all PyProof.Rows.boot_all (pa_cons (pe_lc (own := [("number", 5)]) (te := tCall sp_is_whole [] E0 (tCons (tVar 5) (tCons (tUn (rU fun i => .int (-i)) (tC (.int 999))) (tCons (tC (.int 999)) tNil)))) rfl sc_Line_take.nd (pi_list (pv 2)) (blkOk_by (N := ["self", "place", "numbers", "behind", "at", "number"]) (sc := defScope s_Line_take) (by decide +kernel))
        (fun _ _ _ _ _ => pg_name (i := 5) sc_Line_take.nd rfl (.inl rfl)) (fun _ _ _ _ _ => pts_nil) (fun _ _ _ _ _ => p_call GW hr (pa_cons (pv 5) (pa_cons (pe_un un_neg pe_int) (pa_cons pe_int pa_nil))))) pa_nil)))) (pss_one ps_never) pss_nil)
      (pss_cons (ps_set (i := 3) sc_Line_take.nd rfl (.inl rfl) (pe_op op_add (pv 1) (pe_callB call_len_seq (by rfl) B.len PySem.boot_len (pa_cons (pv 2) pa_nil))))
      (pss_cons (ps_if (pt_cmpR op_gt (pv 3) (p_meth0 GR hr (pv 0)) (nomark _)) (pss_one ps_never) pss_nil)
      (pss_cons (ps_for PassesOwn.never rfl (pi_enumS (by rfl) B.enumerate (pv 2) (pv 1)) (pg_tup rfl (pgs_cons (pg_name (i := 4) sc_Line_take.nd rfl (.inl rfl)) (pgs_cons (pg_name (i := 5) sc_Line_take.nd rfl (.inl rfl)) pgs_nil)))
        (pss_one (ps_expr (pe_dsetd (pe_fld (pv 0) rfl) (pv 4) (pv 5) ⟨rfl, rfl, rfl, rfl⟩))))
      (pss_one (ps_fld (pv 0) (pe_callB (call_max2 rfl) (by rfl) B.max PyProof.Rows.boot_max (pa_cons (pe_fld (pv 0) rfl) (pa_cons (pv 3) pa_nil))) rfl))))))), ?_⟩
    obtain ⟨cl, a1, a3, a4, a5, a6⟩ := T
    obtain ⟨dx, tp, h1, htp⟩ := hL.ob
    obtain ⟨p1, p2, p3, p4, p5, p6⟩ := hP
    walk_at "rds"
    refine ⟨i, 0, 999, rfl, _, rfl, ?_⟩
    rw [decide_eq_true (show 0 ≤ i ∧ i ≤ 999 from ⟨p1, p2⟩)]
    refine iteF ⟨_, .inl ha, _, _, _, rfl, _, rfl, ?_⟩
    rw [decide_eq_true (show 1 ≤ (((ns.map V.int).length : Nat) : Int) ∧ (((ns.map V.int).length : Nat) : Int) ≤ 32 from by rw [List.length_map]; omega)]
    refine iteF ⟨_, rfl, a, rfl, ⟨_, ha⟩, lc_pure (K := K) (a := a) (H9 := H) (i := 5) (te := tCall sp_is_whole [] E0 (tCons (tVar 5) (tCons (tUn (rU fun i => .int (-i)) (tC (.int 999))) (tCons (tC (.int 999)) tNil)))) (σ := [some (.ref l), some (.int i), some (.ref a), none, none, none]) (Q := fun x H1 => rAll K [x] H1 _) (fun _ => .bl true) ha ?_ (fun x hx H1 Q' hs q => ?_) (fun D H1 hD hs1 hl1 => ?_)⟩
    · rw [List.length_map]
      omega
    · obtain ⟨n, hn, rfl⟩ := List.mem_map.mp hx
      refine ⟨_, rfl, _, rfl, n, -999, 999, rfl, ?_⟩
      rw [decide_eq_true (p5 n hn)]
      exact q
    · have ha1 := seq_st ha hs1 (by simp)
      have h1' := hs1.keep _ _ h1 (by simp)
      have hL1 := hL.st0 hs1
      refine ⟨D, ns.map fun _ => true, rfl, .inl (.inl (by rw [hl1, List.map_map, List.map_map]; rfl)), _, rfl, ?_⟩
      rw [show (ns.map fun _ => true).all id = true from by simp]
      refine iteF ⟨_, .inl ha1, _, _, h1', ?_, l, c, s, rfl, hL1, _, rfl, ?_⟩
      · walk_at "rd"
      rw [if_neg (by rw [List.length_map]; omega)]
      refine ⟨_, rfl, _, rfl, a, _, i, rfl, rfl, ha1, by omega, by omega, ?_⟩
      refine for_enumS (K := K) (a := a) (z := i) (xs := ns.map V.int) (fun j σ H2 => ∃ v4 v5, σ = [some (.ref l), some (.int i), some (.ref a), some (.int (i + ((ns.map V.int).length : Nat))), v4, v5] ∧ LineAt C H2 l c { s with came := putAll s.came i (ns.take j) } ∧ Stp [l, c] H H2) ⟨_, _, rfl, hL1, hs1.sub (by simp)⟩ (fun j σ H2 _ h => ?_) (fun j x σ H2 U hj h hU => ?_) (fun σ H2 h => ?_)
      · obtain ⟨_, _, _, _, hs2⟩ := h
        exact seq_st ha hs2 (by simp [hal, hac])
      · obtain ⟨v4, v5, rfl, hL2, hs2⟩ := h
        rw [List.getElem?_map] at hj
        obtain ⟨n, hn, rfl⟩ := Option.map_eq_some_iff.mp hj
        have hst := Stp.new (o := .tup [.int (i + (j : Nat)), .int n]) hU
        have hL3 := hL2.st0 hst
        obtain ⟨dy, tp2, g1, ht2⟩ := hL3.ob
        refine ⟨U, _, rfl, .inl (.inl upd_same), rfl, ?_⟩
        walk_at "rds"
        have hd := hL3.dc

        refine ⟨.inl ⟨_, .inl hd⟩, _, hd, Sum.inl (i + (j : Nat)), rfl, ?_, fun v hv => ?_, fun hv => ?_⟩
        · refine Nat.lt_of_le_of_lt ?_ (show 90032 < sizeLine by decide)
          have := putAll_len (ns.take j) s.came i
          have : (ns.take j).length ≤ ns.length := by rw [List.length_take]; exact Nat.min_le_right _ _
          rw [show (cam (putAll s.came i (ns.take j))).length = (putAll s.came i (ns.take j)).length from by simp [cam]]
          omega
        all_goals
          have hjl : (ns.take j).length = j := by
            rw [List.length_take]
            have := (List.getElem?_eq_some_iff.mp hn).1
            omega
          have et : ns.take (j + 1) = ns.take j ++ [n] := by rw [List.take_add_one, hn]; rfl
          have ep := putAll_snoc (ns.take j) s.came i n
          rw [hjl, ← et] at ep
        · refine ⟨?_, (hs2.trans hst).sub (by simp)⟩
          rw [cam_get] at hv
          cases el : look (putAll s.came i (ns.take j)) (i + (j : Nat)) with
          | none => rw [el] at hv; cases hv
          | some y =>
            rw [ep]
            unfold put1
            rw [el]
            exact hL3
        · rw [cam_get] at hv
          have el : look (putAll s.came i (ns.take j)) (i + (j : Nat)) = none := by
            cases el : look (putAll s.came i (ns.take j)) (i + (j : Nat)) with
            | none => rfl
            | some y => rw [el] at hv; cases hv
          have hne := hL3.ne
          refine ⟨⟨⟨dy, tp2, ?_, (Stp.put hd (fun xs z => nomatch z)).tup _ _ ht2⟩, ?_⟩, ((hs2.trans hst).trans (Stp.put hd (fun xs z => nomatch z))).sub (by simp)⟩
          · rw [upd_ne hne]
            exact g1
          · rw [upd_same, ep, cam_put el]
      · obtain ⟨v4, v5, rfl, hL2, hs2⟩ := h
        rw [List.length_map, List.take_length] at hL2
        obtain ⟨dy, tp2, g1, ht2⟩ := hL2.ob
        have hne := hL2.ne
        walk_at "rds"
        refine k _ ⟨⟨dy, tp2, ?_, (Stp.put g1 (fun xs z => nomatch z)).tup _ _ ht2⟩, ?_⟩ ?_
        · rw [upd_same]
          have e : (if i + (((ns.map V.int).length : Nat) : Int) > s.reach then i + (((ns.map V.int).length : Nat) : Int) else s.reach) = max s.reach (i + (ns.length : Int)) := by
            rw [List.length_map]
            split <;> omega
          rw [e]
          rfl
        · rw [upd_ne hne.symm]
          exact hL2.dc
        · exact (hs2.trans (Stp.put g1 (fun xs z => nomatch z))).sub (by simp)
end
end Mx

namespace Mx
open PySem L2
/-! ### loudness -/
structure LoudS where
  level : Rat
  stride : Rat
  left : Int
def LoudS.on (s : LoudS) : LoudS := if 0 < s.left then ⟨s.level + s.stride, s.stride, s.left - 1⟩ else s
def LoudS.to (s : LoudS) (l b : Int) : LoudS := ⟨s.level, (mkRat l 64 - s.level) * mkRat 1 b.toNat, b⟩
/-- of a common bottom 64 * D, of so many bits -/
structure LoudIs (D : Nat) (a b : Int) (s : LoudS) : Prop where
  d0 : 0 < D
  lv : s.level = mkRat a (64 * D)
  st : s.stride = mkRat b (64 * D)
  a0 : 0 ≤ a
  a1 : a ≤ 64 * (D : Int)
  b0 : -(64 * (D : Int)) ≤ b
  b1 : b ≤ 64 * (D : Int)
  l0 : 0 ≤ s.left
  e0 : 0 ≤ a + b * s.left
  e1 : a + b * s.left ≤ 64 * (D : Int)
def LoudOk (d : Nat) (s : LoudS) : Prop := ∃ D a b, LoudIs D a b s ∧ 64 * D < 2 ^ d
theorem LoudIs.rb {d D : Nat} {a b : Int} {s : LoudS} (h : LoudIs D a b s) (hd : 64 * D < 2 ^ d) : Rb d s.level ∧ Rb d s.stride := by
  obtain ⟨d0, lv, st, a0, a1, b0, b1, l0, e0, e1⟩ := h
  rw [lv, st]
  exact ⟨Rb.of (by omega) (by omega) hd, Rb.of (by omega) (by omega) hd⟩
theorem mk_add (a b : Int) {D : Nat} (h : 0 < D) : mkRat a D + mkRat b D = mkRat (a + b) D := by
  rw [Rat.mkRat_eq_div, Rat.mkRat_eq_div, Rat.mkRat_eq_div, Rat.intCast_add]
  have : ((D : Nat) : Rat) ≠ 0 := by
    intro z
    have := Rat.natCast_eq_zero_iff.mp z
    omega
  grind
theorem LoudOk.on {d : Nat} {s : LoudS} (h : LoudOk d s) : LoudOk d s.on := by
  obtain ⟨D, a, b, h, hd⟩ := h
  unfold LoudS.on
  split
  · rename_i hp
    obtain ⟨d0, lv, st, a0, a1, b0, b1, l0, e0, e1⟩ := h
    refine ⟨D, a + b, b, ⟨d0, ?_, st, ?_, ?_, b0, b1, by show 0 ≤ s.left - 1; omega, ?_, ?_⟩, hd⟩
    · show s.level + s.stride = _
      rw [lv, st, mk_add a b (by omega)]
    · by_cases hb : 0 ≤ b
      · omega
      · have : b * s.left ≤ b * 1 := Int.mul_le_mul_of_nonpos_left (by omega) (by omega)
        omega
    · by_cases hb : 0 ≤ b
      · have : b * 1 ≤ b * s.left := Int.mul_le_mul_of_nonneg_left (by omega) hb
        omega
      · omega
    · show 0 ≤ a + b + b * (s.left - 1)
      have : b * (s.left - 1) = b * s.left - b := by rw [Int.mul_sub, Int.mul_one]
      omega
    · show a + b + b * (s.left - 1) ≤ _
      have : b * (s.left - 1) = b * s.left - b := by rw [Int.mul_sub, Int.mul_one]
      omega
  · exact ⟨D, a, b, h, hd⟩
def fsD (lv st : V) (left : Int) : List (Str × V) := [("level", lv), ("stride", st), ("left", .int left)]
def LoudAt (K : PySem.W.Frag) (C : Addr) (H : Hp) (q : Addr) (s : LoudS) : Prop := ∃ dx lv st, H q = some (.ins C dx (fsD lv st s.left)) ∧ IsQ K H lv s.level ∧ IsQ K H st s.stride
theorem LoudAt.st {K : PySem.W.Frag} {C : Addr} {F : List Addr} {H H' : Hp} {q : Addr} {s : LoudS} (h : LoudAt K C H q s) (k : Stp F H H') (n : q ∉ F) : LoudAt K C H' q s := by
  obtain ⟨dx, lv, st, h1, h2, h3⟩ := h
  exact ⟨dx, lv, st, k.keep _ _ h1 n, h2.st k, h3.st k⟩
structure TD (K : PySem.W.Frag) (C : Addr) : Prop where
  cl : Cls K C
  a1 : NoAttr K C "level"
  a2 : NoAttr K C "stride"
  a3 : NoAttr K C "left"
/-- the top's constants -/
structure TC (K : PySem.W.Frag) (mg : Str → Option Value) : Prop where
  nothing : ∃ a, mg "NOTHING" = some (.ref a) ∧ ∀ H : Hp, SqT K H a (frac 0)
  most : ∃ t, mg "MOST" = some (.int 1000 t)
  full : ∃ t, mg "FULL" = some (.int 64 t)
  hushed : ∃ t, mg "HUSHED" = some (.str "hushed" t)
  rising : ∃ t, mg "RISING" = some (.str "rising" t)
  on : ∃ t, mg "ON" = some (.str "on" t)
  falling : ∃ t, mg "FALLING" = some (.str "falling" t)
theorem isQ0 {K : PySem.W.Frag} {H : Hp} {a : Addr} (h : ∀ H : Hp, SqT K H a (frac 0)) : IsQ K H (.ref a) 0 := ⟨a, rfl, .inr h⟩
theorem isQ_of {K : PySem.W.Frag} {H : Hp} {p : Addr} {q : Rat} (h : H p = some (.tup (frac q))) : IsQ K H (.ref p) q := ⟨p, rfl, .inl h⟩
set_option hygiene false in
local macro_rules | `(tactic| walk_at "rd") => `(tactic| try simp only [L2.start, List.map_cons, List.map_nil, List.length_cons, List.length_nil, Nat.reduceAdd, Nat.reduceSub, Nat.reduceLT, Nat.reduceLeDiff, List.replicate_succ, List.replicate_zero, List.append_nil, List.nil_append, List.cons_append, List.set_cons_zero, List.set_cons_succ, List.getElem?_cons_zero, List.getElem?_cons_succ,
  Option.some.injEq, List.cons.injEq, and_true, true_and, and_assoc, reduceCtorEq, L2.V.int.injEq, L2.V.ref.injEq, L2.V.bl.injEq, L2.V.str.injEq, L2.V.ty.injEq, L2.HO.ins.injEq, L2.HO.lst.injEq, L2.HO.tup.injEq, L2.HO.dK.injEq, exists_eq_left', exists_eq_left, exists_eq_right, exists_eq', exists_eq, exists_and_left, exists_and_right, reduceIte, Bool.false_eq_true, Bool.not_true, Bool.not_false,
  L2.tSeq, L2.tIfS, L2.tRet, L2.tRetN, L2.tNext, L2.tAsg, L2.gName, L2.tVar, L2.tC, L2.tCons, L2.tNil, L2.tCB, L2.tOp, L2.tUn, L2.tTup, L2.tLst, L2.tB, L2.tOr, L2.tAnd, L2.tNot, L2.tAndV, L2.tOrV, L2.tNotV, L2.tIf, L2.tTest, L2.tChain, L2.rI, L2.rI0, L2.rU, L2.tDrop, L2.tNever, L2.tCall, L2.tMeth, L2.tMake, L2.rGcd, L2.tFld, L2.sFld, L2.sFldAug, Mx.sFldA, Mx.sFldAugA, L2.rAdd, L2.rSub, L2.rEq, L2.rNe, L2.tDGet, L2.tDIn, L2.tDNotIn, L2.sDPut,
  Mx.isi_int_bool, Mx.isi_int_int, Mx.isi_int_tuple, Mx.isi_int_list, Mx.isi_int_str, Mx.scal_int, Mx.scal_str, Mx.scal_bl, Mx.ofString_inj, Mx.ofString_beq, Mx.lk_cons, Mx.pf_nil, Mx.pf_cons, Mx.sz1, Mx.sz2, List.lookup_nil, String.reduceEq, decide_true, decide_false, decide_eq_true_eq, Int.natAbs_natCast, L2.upd_same, L2.upd_upd, L2.cxOf, Mx.fsD])
set_option hygiene false in
local macro_rules | `(tactic| walk_at "rds") => `(tactic| try simp only [L2.start, List.map_cons, List.map_nil, List.length_cons, List.length_nil, Nat.reduceAdd, Nat.reduceSub, Nat.reduceLT, Nat.reduceLeDiff, List.replicate_succ, List.replicate_zero, List.append_nil, List.nil_append, List.cons_append, List.set_cons_zero, List.set_cons_succ, List.getElem?_cons_zero, List.getElem?_cons_succ,
  Option.some.injEq, List.cons.injEq, and_true, true_and, and_assoc, reduceCtorEq, L2.V.int.injEq, L2.V.ref.injEq, L2.V.bl.injEq, L2.V.str.injEq, L2.V.ty.injEq, L2.HO.ins.injEq, L2.HO.lst.injEq, L2.HO.tup.injEq, L2.HO.dK.injEq, exists_eq_left', exists_eq_left, exists_eq_right, exists_eq', exists_eq, exists_and_left, exists_and_right, reduceIte, Bool.false_eq_true, Bool.not_true, Bool.not_false,
  L2.tSeq, L2.tIfS, L2.tRet, L2.tRetN, L2.tNext, L2.tAsg, L2.gName, L2.tVar, L2.tC, L2.tCons, L2.tNil, L2.tCB, L2.tOp, L2.tUn, L2.tTup, L2.tLst, L2.tB, L2.tOr, L2.tAnd, L2.tNot, L2.tAndV, L2.tOrV, L2.tNotV, L2.tIf, L2.tTest, L2.tChain, L2.rI, L2.rI0, L2.rU, L2.tDrop, L2.tNever, L2.tCall, L2.tMeth, L2.tMake, L2.rGcd, L2.tFld, L2.sFld, L2.sFldAug, Mx.sFldA, Mx.sFldAugA, L2.rAdd, L2.rSub, L2.rEq, L2.rNe, L2.tDGet, L2.tDIn, L2.tDNotIn, L2.sDPut,
  Mx.isi_int_bool, Mx.isi_int_int, Mx.isi_int_tuple, Mx.isi_int_list, Mx.isi_int_str, Mx.scal_int, Mx.scal_str, Mx.scal_bl, Mx.ofString_inj, Mx.ofString_beq, Mx.lk_cons, Mx.pf_nil, Mx.pf_cons, Mx.sz1, Mx.sz2, List.lookup_nil, String.reduceEq, decide_true, decide_false, decide_eq_true_eq, Int.natAbs_natCast, L2.upd_same, L2.upd_upd, L2.cxOf, Mx.fsD, *])

section
variable {P : Program} {w : World} {K : PySem.W.Frag} {mg : Str → Option Value} {base : Heap} {C : Addr}
def sp_Loudness_init (K : PySem.W.Frag) (C : Addr) : Sp := fun vs H Q _ => ∃ (q dx : Addr) (n : Int), vs = [.ref q, .int n] ∧ H q = some (.ins C dx []) ∧ ∀ H', LoudAt K C H' q ⟨mkRat n 64, 0, 0⟩ → Stp [q] H H' → Q .non H'
theorem sc_Loudness_init : FnScope ["self", "loudness"] ["self", "loudness"] (defScope s_Loudness_init) := ⟨rfl, rfl, rfl, by decide +kernel, rfl, by decide +kernel, by decide +kernel⟩
theorem ok_Loudness_init {f : Addr} {fd : FuncData} (F : Fun K "__init__" "Loudness.__init__" s_Loudness_init f fd) (T : TD K C) (TT : TC K mg) (GR : OwnF P w K mg base "ratio" 1 ["top", "bottom"] sp_ratio) : FnOk P w K mg base CX0 2 f fd ["self", "loudness"] (sp_Loudness_init K C) := by
  refine F.ok sc_Loudness_init (fun vs H Q E h => ?_) (fun cdv A outer s H vs Q E hr h => ?_)
  · obtain ⟨q, dx, n, rfl, _⟩ := h
    rfl
  · obtain ⟨q, dx, n, rfl, hq, k⟩ := h
    obtain ⟨cl, a1, a2, a3⟩ := T
    obtain ⟨aN, hN, hN2⟩ := TT.nothing
    obtain ⟨tF, hF⟩ := TT.full
    refine ⟨_, pss_cons (ps_fldA (pv 0) (p_call GR hr (pa_cons (pv 1) (pa_cons (pe_glob (v := .int 64) (by rfl) hF ⟨_, rfl⟩) pa_nil))) rfl)
      (pss_cons (ps_fldA (pv 0) (pe_glob (v := .ref aN) (by rfl) hN rfl) rfl) (pss_one (ps_fldA (pv 0) pe_int rfl))), ?_⟩
    walk_at "rds"
    refine ⟨n, 64, rfl, by decide, Nat.pow_lt_pow_right (by decide) (show 7 < 9000 by decide) |> Nat.lt_trans (by decide), fun p H1 hp s1 l1 => ?_⟩
    have h1 := s1.keep _ _ hq (by simp)
    walk_at "rds"
    intro H2 h2 s2
    walk_at "rds"
    intro H3 h3 s3
    walk_at "rds"
    intro H4 h4 s4
    have s34 := s3.trans s4
    exact k _ ⟨dx, _, _, h4, (isQ_of l1).st (s2.trans s34), isQ0 hN2⟩ ((s1.trans (s2.trans s34)).sub (by simp))
def sp_Loudness_lead_on (K : PySem.W.Frag) (C : Addr) : Sp := fun vs H Q _ => ∃ (q : Addr) (s : LoudS) (d : Nat), vs = [.ref q] ∧ LoudAt K C H q s ∧ LoudOk d s ∧ 0 < d ∧ 2 * d < 9000 ∧ ∀ H', LoudAt K C H' q s.on → Stp [q] H H' → Q .non H'
theorem sc_Loudness_lead_on : FnScope ["self"] ["self"] (defScope s_Loudness_lead_on) := ⟨rfl, rfl, rfl, by decide +kernel, rfl, by decide +kernel, by decide +kernel⟩
theorem ok_Loudness_lead_on {f : Addr} {fd : FuncData} (F : Fun K "lead_on" "Loudness.lead_on" s_Loudness_lead_on f fd) (T : TD K C) (GP : OwnF P w K mg base "plus" 2 ["one", "other"] (sp_two (· + ·) K)) : FnOk P w K mg base CX0 3 f fd ["self"] (sp_Loudness_lead_on K C) := by
  refine F.ok sc_Loudness_lead_on (fun vs H Q E h => ?_) (fun cdv A outer s H vs Q E hr h => ?_)
  · obtain ⟨q, s, d, rfl, _⟩ := h
    rfl
  · obtain ⟨q, s, d, rfl, hq, hO, hd0, hd, k⟩ := h
    obtain ⟨cl, a1, a2, a3⟩ := T
    obtain ⟨dx, lv, st, h1, h2, h3⟩ := id hq
    refine ⟨_, pss_one (ps_if (pt_cmpR op_gt (pe_fld (pv 0) rfl) pe_int (nomark _)) (pss_cons (ps_fldA (pv 0) (p_call GP hr (pa_cons (pe_fld (pv 0) rfl) (pa_cons (pe_fld (pv 0) rfl) pa_nil))) rfl) (pss_one (ps_fldaugA (pv 0) pe_int in_sub))) pss_nil), ?_⟩
    obtain ⟨a, rfl, h2'⟩ := h2
    obtain ⟨b, rfl, h3'⟩ := h3
    obtain ⟨D, x, y, hI, hD⟩ := hO
    obtain ⟨r1, r2⟩ := hI.rb hD
    unfold LoudS.on at k
    walk_at "rds"
    by_cases hl : 0 < s.left
    · rw [if_pos hl] at k ⊢
      refine ⟨a, b, s.level, s.stride, d, d, rfl, h2', h3', r1, r2, by omega, hd0, hd0, fun p H1 hp s1 l1 => ?_⟩
      have g1 := s1.keep _ _ h1 (by simp)
      walk_at "rds"
      intro H2 g2 s2
      walk_at "rds"
      intro H3 g3 s3
      have s23 := s2.trans s3
      exact k _ ⟨dx, _, _, g3, (isQ_of l1).st s23, ⟨b, rfl, (h3'.st s1).st s23⟩⟩ ((s1.trans s23).sub (by simp))
    · rw [if_neg hl] at k ⊢
      exact k H hq (Stp.refl.sub (by simp))
end
/-! ### one voice -/
structure VoiceS where
  line : LineS
  loud : LoudS
  heard : Bool
  word : Str
  steps : Int
  part : Rat
  height : Rat
abbrev wH : Str := "hushed"
abbrev wR : Str := "rising"
abbrev wO : Str := "on"
abbrev wF : Str := "falling"
def VoiceS.fall (v : VoiceS) (soft : Int) : VoiceS := { v with steps := v.steps + 1, part := v.height * mkRat (soft - (v.steps + 1)) soft.toNat, word := if v.steps + 1 = soft then wH else v.word }
def VoiceS.rise (v : VoiceS) (whole : Rat) (soft : Int) : VoiceS := { v with steps := v.steps + 1, part := whole * mkRat (v.steps + 1) soft.toNat, word := if v.steps + 1 = soft then wO else v.word }
def VoiceS.sound (v : VoiceS) (whole : Rat) (soft : Int) : VoiceS := if v.word = wO then { v with part := whole } else (if v.word = wH then { v with word := wR, steps := 0 } else v).rise whole soft
def VoiceS.beginFall (v : VoiceS) (soft : Int) : VoiceS := VoiceS.fall { v with word := wF, steps := 0, height := v.part } soft
def VoiceS.may (v : VoiceS) (t : Int) : Bool := v.heard && v.line.ready t
def VoiceS.give (v : VoiceS) (t soft : Int) : VoiceS :=
  let u : VoiceS := { v with loud := v.loud.on }
  if v.word = wF then u.fall soft else if v.may t = true then u.sound (v.line.value t * v.loud.on.level) soft else if v.word = wH then u else u.beginFall soft
def fsV (l q : Addr) (v : VoiceS) (pv hv : V) : List (Str × V) := [("line", .ref l), ("loudness", .ref q), ("heard", .bl v.heard), ("state", .str v.word), ("steps", .int v.steps), ("part", pv), ("height", hv)]
/-- the voice's own object -/
def VObj (K : PySem.W.Frag) (C : Addr) (H : Hp) (a l q : Addr) (v : VoiceS) : Prop := ∃ dx pv hv, H a = some (.ins C dx (fsV l q v pv hv)) ∧ IsQ K H pv v.part ∧ IsQ K H hv v.height
theorem VObj.st {K : PySem.W.Frag} {C : Addr} {F : List Addr} {H H' : Hp} {a l q : Addr} {v : VoiceS} (h : VObj K C H a l q v) (k : Stp F H H') (n : a ∉ F) : VObj K C H' a l q v := by
  obtain ⟨dx, pv, hv, h1, h2, h3⟩ := h
  exact ⟨dx, pv, hv, k.keep _ _ h1 n, h2.st k, h3.st k⟩
structure TV (K : PySem.W.Frag) (C : Addr) : Prop where
  cl : Cls K C
  a1 : NoAttr K C "line"
  a2 : NoAttr K C "loudness"
  a3 : NoAttr K C "heard"
  a4 : NoAttr K C "state"
  a5 : NoAttr K C "steps"
  a6 : NoAttr K C "part"
  a7 : NoAttr K C "height"
theorem p9000 {n m : Nat} (h : n < 2 ^ m) (l : m < 9000) : n < 2 ^ 9000 := Nat.lt_of_lt_of_le h (Nat.pow_le_pow_right (by decide) (Nat.le_of_lt l))
theorem ratioOk {k soft : Int} (h0 : 0 ≤ k) (h1 : k ≤ soft) (h2 : 1 ≤ soft) (h3 : soft ≤ 16) : Rb 5 (mkRat k soft.toNat) := Rb.of (by omega) (by omega) (by omega)
set_option hygiene false in
local macro_rules | `(tactic| walk_at "rd") => `(tactic| try simp only [L2.start, List.map_cons, List.map_nil, List.length_cons, List.length_nil, Nat.reduceAdd, Nat.reduceSub, Nat.reduceLT, Nat.reduceLeDiff, List.replicate_succ, List.replicate_zero, List.append_nil, List.nil_append, List.cons_append, List.set_cons_zero, List.set_cons_succ, List.getElem?_cons_zero, List.getElem?_cons_succ,
  Option.some.injEq, List.cons.injEq, and_true, true_and, and_assoc, reduceCtorEq, L2.V.int.injEq, L2.V.ref.injEq, L2.V.bl.injEq, L2.V.str.injEq, L2.V.ty.injEq, L2.HO.ins.injEq, L2.HO.lst.injEq, L2.HO.tup.injEq, L2.HO.dK.injEq, exists_eq_left', exists_eq_left, exists_eq_right, exists_eq', exists_eq, exists_and_left, exists_and_right, reduceIte, Bool.false_eq_true, Bool.not_true, Bool.not_false,
  L2.tSeq, L2.tIfS, L2.tRet, L2.tRetN, L2.tNext, L2.tAsg, L2.gName, L2.tVar, L2.tC, L2.tCons, L2.tNil, L2.tCB, L2.tOp, L2.tUn, L2.tTup, L2.tLst, L2.tB, L2.tOr, L2.tAnd, L2.tNot, L2.tAndV, L2.tOrV, L2.tNotV, L2.tIf, L2.tTest, L2.tChain, L2.rI, L2.rI0, L2.rU, L2.tDrop, L2.tNever, L2.tCall, L2.tMeth, L2.tMake, L2.rGcd, L2.tFld, L2.sFld, L2.sFldAug, Mx.sFldA, Mx.sFldAugA, L2.rAdd, L2.rSub, L2.rEq, L2.rNe, L2.tDGet, L2.tDIn, L2.tDNotIn, L2.sDPut,
  Mx.isi_int_bool, Mx.isi_int_int, Mx.isi_int_tuple, Mx.isi_int_list, Mx.isi_int_str, Mx.scal_int, Mx.scal_str, Mx.scal_bl, Mx.ofString_inj, Mx.ofString_beq, Mx.lk_cons, Mx.pf_nil, Mx.pf_cons, Mx.sz1, Mx.sz2, List.lookup_nil, String.reduceEq, decide_true, decide_false, decide_eq_true_eq, Int.natAbs_natCast, L2.upd_same, L2.upd_upd, L2.cxOf, Mx.fsV])
set_option hygiene false in
local macro_rules | `(tactic| walk_at "rds") => `(tactic| try simp only [L2.start, List.map_cons, List.map_nil, List.length_cons, List.length_nil, Nat.reduceAdd, Nat.reduceSub, Nat.reduceLT, Nat.reduceLeDiff, List.replicate_succ, List.replicate_zero, List.append_nil, List.nil_append, List.cons_append, List.set_cons_zero, List.set_cons_succ, List.getElem?_cons_zero, List.getElem?_cons_succ,
  Option.some.injEq, List.cons.injEq, and_true, true_and, and_assoc, reduceCtorEq, L2.V.int.injEq, L2.V.ref.injEq, L2.V.bl.injEq, L2.V.str.injEq, L2.V.ty.injEq, L2.HO.ins.injEq, L2.HO.lst.injEq, L2.HO.tup.injEq, L2.HO.dK.injEq, exists_eq_left', exists_eq_left, exists_eq_right, exists_eq', exists_eq, exists_and_left, exists_and_right, reduceIte, Bool.false_eq_true, Bool.not_true, Bool.not_false,
  L2.tSeq, L2.tIfS, L2.tRet, L2.tRetN, L2.tNext, L2.tAsg, L2.gName, L2.tVar, L2.tC, L2.tCons, L2.tNil, L2.tCB, L2.tOp, L2.tUn, L2.tTup, L2.tLst, L2.tB, L2.tOr, L2.tAnd, L2.tNot, L2.tAndV, L2.tOrV, L2.tNotV, L2.tIf, L2.tTest, L2.tChain, L2.rI, L2.rI0, L2.rU, L2.tDrop, L2.tNever, L2.tCall, L2.tMeth, L2.tMake, L2.rGcd, L2.tFld, L2.sFld, L2.sFldAug, Mx.sFldA, Mx.sFldAugA, L2.rAdd, L2.rSub, L2.rEq, L2.rNe, L2.tDGet, L2.tDIn, L2.tDNotIn, L2.sDPut,
  Mx.isi_int_bool, Mx.isi_int_int, Mx.isi_int_tuple, Mx.isi_int_list, Mx.isi_int_str, Mx.scal_int, Mx.scal_str, Mx.scal_bl, Mx.ofString_inj, Mx.ofString_beq, Mx.lk_cons, Mx.pf_nil, Mx.pf_cons, Mx.sz1, Mx.sz2, List.lookup_nil, String.reduceEq, decide_true, decide_false, decide_eq_true_eq, Int.natAbs_natCast, L2.upd_same, L2.upd_upd, L2.cxOf, Mx.fsV, *])

section
variable {P : Program} {w : World} {K : PySem.W.Frag} {mg : Str → Option Value} {base : Heap} {C : Addr}
def sp_Voice_fall (K : PySem.W.Frag) (C : Addr) : Sp := fun vs H Q _ => ∃ (a l q : Addr) (v : VoiceS) (soft : Int) (n : Nat), vs = [.ref a, .int soft] ∧ VObj K C H a l q v ∧ 1 ≤ soft ∧ soft ≤ 16 ∧ 0 ≤ v.steps ∧ v.steps < soft ∧ Rb n v.height ∧ 0 < n ∧ n < 8900 ∧
  ∀ H', VObj K C H' a l q (v.fall soft) → Stp [a] H H' → Q .non H'
theorem sc_Voice_fall : FnScope ["self", "soft"] ["self", "soft"] (defScope s_Voice_fall) := ⟨rfl, rfl, rfl, by decide +kernel, rfl, by decide +kernel, by decide +kernel⟩
theorem ok_Voice_fall {f : Addr} {fd : FuncData} (F : Fun K "fall" "Voice.fall" s_Voice_fall f fd) (T : TV K C) (TT : TC K mg) (GR : OwnF P w K mg base "ratio" 1 ["top", "bottom"] sp_ratio) (GT : OwnF P w K mg base "times" 2 ["one", "other"] (sp_two (· * ·) K)) :
    FnOk P w K mg base CX0 3 f fd ["self", "soft"] (sp_Voice_fall K C) := by
  refine F.ok sc_Voice_fall (fun vs H Q E h => ?_) (fun cdv A outer s H vs Q E hr h => ?_)
  · obtain ⟨a, l, q, v, soft, n, rfl, _⟩ := h
    rfl
  · obtain ⟨a, l, q, v, soft, n, rfl, hV, hs1, hs2, hk0, hk1, hb, hn0, hn1, k⟩ := h
    obtain ⟨tH, hH⟩ := TT.hushed
    refine ⟨_, pss_cons (ps_fldaugA (pv 0) pe_int in_add)
      (pss_cons (ps_fldA (pv 0) (p_call GT hr (pa_cons (pe_fld (pv 0) rfl) (pa_cons (p_call GR (hr.mono (by decide)) (pa_cons (pe_op op_sub (pv 1) (pe_fld (pv 0) rfl)) (pa_cons (pv 1) pa_nil))) pa_nil))) rfl)
      (pss_one (ps_if (pt_cmpR op_eq (pe_fld (pv 0) rfl) (pv 1) (nomark _)) (pss_one (ps_fldA (pv 0) (pe_glob (v := .str "hushed") (by rfl) hH ⟨_, rfl⟩) rfl)) pss_nil))), ?_⟩
    obtain ⟨cl, a1, a2, a3, a4, a5, a6, a7⟩ := T
    obtain ⟨dx, pv, hv, h1, h2, h3⟩ := hV
    obtain ⟨ah, rfl, h3'⟩ := h3
    walk_at "rds"
    intro H1 g1 s1
    walk_at "rds"
    refine ⟨_, _, rfl, by omega, p9000 (show soft.natAbs < 2 ^ 5 by omega) (by decide), fun p H2 hp s2 l2 => ?_⟩
    have g2 := s2.keep _ _ g1 (by simp)
    refine ⟨ah, p, v.height, mkRat (soft - (v.steps + 1)) soft.toNat, n, 5, rfl, (h3'.st s1).st s2, .inl l2, hb, ratioOk (by omega) (by omega) hs1 hs2, by omega, hn0, by decide, fun r H3 hr' s3 l3 => ?_⟩
    have g3 := s3.keep _ _ g2 (by simp)
    walk_at "rds"
    intro H4 g4 s4
    have t4 := (s1.trans (s2.trans s3)).trans s4
    walk_at "rds"
    unfold VoiceS.fall at k
    by_cases e : v.steps + 1 = soft
    · rw [if_pos e] at k ⊢
      intro H5 g5 s5
      exact k _ ⟨dx, _, _, g5, (isQ_of l3).st (s4.trans s5), ⟨ah, rfl, h3'.st (t4.trans s5)⟩⟩ ((t4.trans s5).sub (by simp))
    · rw [if_neg e] at k ⊢
      exact k _ ⟨dx, _, _, g4, (isQ_of l3).st s4, ⟨ah, rfl, h3'.st t4⟩⟩ (t4.sub (by simp))

def sp_Voice_rise (K : PySem.W.Frag) (C : Addr) : Sp := fun vs H Q _ => ∃ (a l q : Addr) (v : VoiceS) (wv : V) (x : Rat) (soft : Int) (n : Nat), vs = [.ref a, wv, .int soft] ∧ VObj K C H a l q v ∧ IsQ K H wv x ∧ 1 ≤ soft ∧ soft ≤ 16 ∧ 0 ≤ v.steps ∧ v.steps < soft ∧ Rb n x ∧ 0 < n ∧ n < 8900 ∧
  ∀ H', VObj K C H' a l q (v.rise x soft) → Stp [a] H H' → Q .non H'
theorem sc_Voice_rise : FnScope ["self", "whole", "soft"] ["self", "whole", "soft"] (defScope s_Voice_rise) := ⟨rfl, rfl, rfl, by decide +kernel, rfl, by decide +kernel, by decide +kernel⟩
theorem ok_Voice_rise {f : Addr} {fd : FuncData} (F : Fun K "rise" "Voice.rise" s_Voice_rise f fd) (T : TV K C) (TT : TC K mg) (GR : OwnF P w K mg base "ratio" 1 ["top", "bottom"] sp_ratio) (GT : OwnF P w K mg base "times" 2 ["one", "other"] (sp_two (· * ·) K)) :
    FnOk P w K mg base CX0 3 f fd ["self", "whole", "soft"] (sp_Voice_rise K C) := by
  refine F.ok sc_Voice_rise (fun vs H Q E h => ?_) (fun cdv A outer s H vs Q E hr h => ?_)
  · obtain ⟨a, l, q, v, wv, x, soft, n, rfl, _⟩ := h
    rfl
  · obtain ⟨a, l, q, v, wv, x, soft, n, rfl, hV, hW, hs1, hs2, hk0, hk1, hb, hn0, hn1, k⟩ := h
    obtain ⟨tO, hO⟩ := TT.on
    refine ⟨_, pss_cons (ps_fldaugA (pv 0) pe_int in_add)
      (pss_cons (ps_fldA (pv 0) (p_call GT hr (pa_cons (pv 1) (pa_cons (p_call GR (hr.mono (by decide)) (pa_cons (pe_fld (pv 0) rfl) (pa_cons (pv 2) pa_nil))) pa_nil))) rfl)
      (pss_one (ps_if (pt_cmpR op_eq (pe_fld (pv 0) rfl) (pv 2) (nomark _)) (pss_one (ps_fldA (pv 0) (pe_glob (v := .str "on") (by rfl) hO ⟨_, rfl⟩) rfl)) pss_nil))), ?_⟩
    obtain ⟨cl, a1, a2, a3, a4, a5, a6, a7⟩ := T
    obtain ⟨dx, pv, hv, h1, h2, h3⟩ := hV
    obtain ⟨aw, rfl, hW'⟩ := hW
    walk_at "rds"
    intro H1 g1 s1
    walk_at "rds"
    refine ⟨_, _, rfl, by omega, p9000 (show soft.natAbs < 2 ^ 5 by omega) (by decide), fun p H2 hp s2 l2 => ?_⟩
    have g2 := s2.keep _ _ g1 (by simp)
    refine ⟨aw, p, x, mkRat (v.steps + 1) soft.toNat, n, 5, rfl, (hW'.st s1).st s2, .inl l2, hb, ratioOk (by omega) (by omega) hs1 hs2, by omega, hn0, by decide, fun r H3 hr' s3 l3 => ?_⟩
    have g3 := s3.keep _ _ g2 (by simp)
    walk_at "rds"
    intro H4 g4 s4
    have t4 := (s1.trans (s2.trans s3)).trans s4
    walk_at "rds"
    unfold VoiceS.rise at k
    by_cases e : v.steps + 1 = soft
    · rw [if_pos e] at k ⊢
      intro H5 g5 s5
      exact k _ ⟨dx, _, _, g5, (isQ_of l3).st (s4.trans s5), h3.st (t4.trans s5)⟩ ((t4.trans s5).sub (by simp))
    · rw [if_neg e] at k ⊢
      exact k _ ⟨dx, _, _, g4, (isQ_of l3).st s4, h3.st t4⟩ (t4.sub (by simp))

theorem sc_Voice_begin_fall : FnScope ["self", "soft"] ["self", "soft"] (defScope s_Voice_begin_fall) := ⟨rfl, rfl, rfl, by decide +kernel, rfl, by decide +kernel, by decide +kernel⟩
def sp_Voice_begin_fall (K : PySem.W.Frag) (C : Addr) : Sp := fun vs H Q _ => ∃ (a l q : Addr) (v : VoiceS) (soft : Int) (n : Nat), vs = [.ref a, .int soft] ∧ VObj K C H a l q v ∧ 1 ≤ soft ∧ soft ≤ 16 ∧ Rb n v.part ∧ 0 < n ∧ n < 8900 ∧
  ∀ H', VObj K C H' a l q (v.beginFall soft) → Stp [a] H H' → Q .non H'
theorem ok_Voice_begin_fall {f : Addr} {fd : FuncData} (F : Fun K "begin_fall" "Voice.begin_fall" s_Voice_begin_fall f fd) (T : TV K C) (TT : TC K mg) (GF : OwnM P w K mg base C "fall" 3 ["self", "soft"] (sp_Voice_fall K C)) :
    FnOk P w K mg base CX0 4 f fd ["self", "soft"] (sp_Voice_begin_fall K C) := by
  refine F.ok sc_Voice_begin_fall (fun vs H Q E h => ?_) (fun cdv A outer s H vs Q E hr h => ?_)
  · obtain ⟨a, l, q, v, soft, n, rfl, _⟩ := h
    rfl
  · obtain ⟨a, l, q, v, soft, n, rfl, hV, hs1, hs2, hb, hn0, hn1, k⟩ := h
    obtain ⟨tF, hF⟩ := TT.falling
    refine ⟨_, pss_cons (ps_fldA (pv 0) (pe_glob (v := .str "falling") (by rfl) hF ⟨_, rfl⟩) rfl) (pss_cons (ps_fldA (pv 0) pe_int rfl) (pss_cons (ps_fldA (pv 0) (pe_fld (pv 0) rfl) rfl)
      (pss_one (ps_expr (p_meth GF hr (pv 0) (pa_cons (pv 1) pa_nil)))))), ?_⟩
    obtain ⟨cl, a1, a2, a3, a4, a5, a6, a7⟩ := T
    obtain ⟨dx, pv, hv, h1, h2, h3⟩ := hV
    walk_at "rds"
    intro H1 g1 s1
    walk_at "rds"
    intro H2 g2 s2
    walk_at "rds"
    intro H3 g3 s3
    have t3 := s1.trans (s2.trans s3)
    walk_at "rds"
    refine ⟨a, l, q, { v with word := wF, steps := 0, height := v.part }, soft, n, rfl, ⟨dx, _, _, g3, h2.st t3, h2.st t3⟩, hs1, hs2, by show (0 : Int) ≤ 0; decide, by show (0 : Int) < soft; omega, hb, hn0, hn1, fun H4 g4 s4 => ?_⟩
    exact k _ g4 ((t3.trans s4).sub (by simp))

theorem sc_Voice_sound : FnScope ["self", "whole", "soft"] ["self", "whole", "soft"] (defScope s_Voice_sound) := ⟨rfl, rfl, rfl, by decide +kernel, rfl, by decide +kernel, by decide +kernel⟩
def sp_Voice_sound (K : PySem.W.Frag) (C : Addr) : Sp := fun vs H Q _ => ∃ (a l q : Addr) (v : VoiceS) (wv : V) (x : Rat) (soft : Int) (n : Nat), vs = [.ref a, wv, .int soft] ∧ VObj K C H a l q v ∧ IsQ K H wv x ∧ 1 ≤ soft ∧ soft ≤ 16 ∧ (v.word = wR → 0 ≤ v.steps ∧ v.steps < soft) ∧ (v.word = wH ∨ v.word = wR ∨ v.word = wO) ∧ Rb n x ∧ 0 < n ∧ n < 8900 ∧
  ∀ H', VObj K C H' a l q (v.sound x soft) → Stp [a] H H' → Q .non H'
theorem ok_Voice_sound {f : Addr} {fd : FuncData} (F : Fun K "sound" "Voice.sound" s_Voice_sound f fd) (T : TV K C) (TT : TC K mg) (GR : OwnM P w K mg base C "rise" 3 ["self", "whole", "soft"] (sp_Voice_rise K C)) :
    FnOk P w K mg base CX0 4 f fd ["self", "whole", "soft"] (sp_Voice_sound K C) := by
  refine F.ok sc_Voice_sound (fun vs H Q E h => ?_) (fun cdv A outer s H vs Q E hr h => ?_)
  · obtain ⟨a, l, q, v, wv, x, soft, n, rfl, _⟩ := h
    rfl
  · obtain ⟨a, l, q, v, wv, x, soft, n, rfl, hV, hW, hs1, hs2, hk, hww, hb, hn0, hn1, k⟩ := h
    obtain ⟨tH, hH⟩ := TT.hushed
    obtain ⟨tR, hR⟩ := TT.rising
    obtain ⟨tO, hO⟩ := TT.on
    refine ⟨_, pss_cons (ps_if (pt_cmpR op_eq (pe_fld (pv 0) rfl) (pe_glob (v := .str "on") (by rfl) hO ⟨_, rfl⟩) (nomark _)) (pss_cons (ps_fldA (pv 0) (pv 1) rfl) (pss_one ps_retN)) pss_nil)
      (pss_cons (ps_if (pt_cmpR op_eq (pe_fld (pv 0) rfl) (pe_glob (v := .str "hushed") (by rfl) hH ⟨_, rfl⟩) (nomark _)) (pss_cons (ps_fldA (pv 0) (pe_glob (v := .str "rising") (by rfl) hR ⟨_, rfl⟩) rfl) (pss_one (ps_fldA (pv 0) pe_int rfl))) pss_nil)
      (pss_one (ps_expr (p_meth GR hr (pv 0) (pa_cons (pv 1) (pa_cons (pv 2) pa_nil)))))), ?_⟩
    obtain ⟨cl, a1, a2, a3, a4, a5, a6, a7⟩ := T
    obtain ⟨dx, pv, hv, h1, h2, h3⟩ := id hV
    obtain ⟨aw, rfl, hW'⟩ := id hW
    unfold VoiceS.sound at k
    rcases hww with e | e | e
    · rw [e] at k
      walk_at "rds"
      simp only [wH, wO, wR, ofString_inj, String.reduceEq, reduceIte] at k ⊢
      intro H1 g1 s1
      walk_at "rds"
      intro H2 g2 s2
      have t2 := s1.trans s2
      walk_at "rds"
      refine ⟨a, l, q, { v with word := wR, steps := 0 }, _, x, soft, n, rfl, ⟨dx, _, _, g2, h2.st t2, h3.st t2⟩, hW.st t2, hs1, hs2, by show (0 : Int) ≤ 0; decide, by show (0 : Int) < soft; omega, hb, hn0, hn1, fun H4 g4 s4 => ?_⟩
      exact k _ g4 ((t2.trans s4).sub (by simp))
    · rw [e] at k
      have ⟨q0, q1⟩ := hk e
      walk_at "rds"
      simp only [wH, wO, wR, ofString_inj, String.reduceEq, reduceIte] at k ⊢
      exact ⟨a, l, q, v, _, x, soft, n, rfl, hV, hW, hs1, hs2, q0, q1, hb, hn0, hn1, fun H4 g4 s4 => k _ g4 (s4.sub (by simp))⟩
    · rw [e] at k
      walk_at "rds"
      simp only [wH, wO, wR, ofString_inj, String.reduceEq, reduceIte] at k ⊢
      intro H1 g1 s1
      exact k _ ⟨dx, _, _, g1, hW.st s1, h3.st s1⟩ (s1.sub (by simp))
end
end Mx

namespace Mx
open PySem L2
/-- the classes -/
structure Cs where
  L : Addr
  D : Addr
  V : Addr
  M : Addr
/-- a voice's objects -/
structure VA where
  a : Addr
  l : Addr
  c : Addr
  q : Addr
def VA.foot (A : VA) : List Addr := [A.a, A.l, A.c, A.q]
structure VoiceAt (K : PySem.W.Frag) (cs : Cs) (H : Hp) (A : VA) (v : VoiceS) : Prop where
  ob : VObj K cs.V H A.a A.l A.q v
  line : LineAt cs.L H A.l A.c v.line
  loud : LoudAt K cs.D H A.q v.loud
  nd : A.foot.Nodup
theorem VoiceAt.st {K : PySem.W.Frag} {cs : Cs} {F : List Addr} {H H' : Hp} {A : VA} {v : VoiceS} (h : VoiceAt K cs H A v) (k : Stp F H H') (n : ∀ b ∈ A.foot, b ∉ F) : VoiceAt K cs H' A v :=
  ⟨h.ob.st k (n _ (by simp [VA.foot])), h.line.st k (n _ (by simp [VA.foot])) (n _ (by simp [VA.foot])), h.loud.st k (n _ (by simp [VA.foot])), h.nd⟩
theorem VoiceAt.st0 {K : PySem.W.Frag} {cs : Cs} {H H' : Hp} {A : VA} {v : VoiceS} (h : VoiceAt K cs H A v) (k : Stp [] H H') : VoiceAt K cs H' A v := h.st k (by simp)
theorem VoiceAt.some {K : PySem.W.Frag} {cs : Cs} {H : Hp} {A : VA} {v : VoiceS} (h : VoiceAt K cs H A v) : ∀ b ∈ A.foot, H b ≠ none := by
  obtain ⟨⟨dx, pv, hv, h1, _⟩, ⟨⟨dy, tp, h2, _⟩, h3⟩, ⟨dz, lv, st, h4, _⟩, _⟩ := h
  intro b hb
  simp only [VA.foot, List.mem_cons, List.not_mem_nil, or_false] at hb
  rcases hb with e | e | e | e <;> subst e
  · rw [h1]; exact fun z => nomatch z
  · rw [h2]; exact fun z => nomatch z
  · rw [h3]; exact fun z => nomatch z
  · rw [h4]; exact fun z => nomatch z
/-- what goes well with a voice: so many bits, this soft -/
structure VoiceOk (d : Nat) (soft : Int) (v : VoiceS) : Prop where
  line : LineOk v.line
  loud : LoudOk d v.loud
  word : v.word = wH ∨ v.word = wR ∨ v.word = wO ∨ v.word = wF
  stR : v.word = wR → 0 ≤ v.steps ∧ v.steps < soft
  stF : v.word = wF → 0 ≤ v.steps ∧ v.steps < soft
  part : Rb (d + 24) v.part
  partS : v.word = wR ∨ v.word = wO → Rb (d + 19) v.part
  height : v.word = wF → Rb (d + 19) v.height
theorem Rb.mul {n m : Nat} {q r : Rat} (h : Rb n q) (k : Rb m r) : Rb (n + m) (q * r) := by
  rw [← mul_mk]
  have e : 2 ^ n * 2 ^ m = 2 ^ (n + m) := (Nat.pow_add 2 n m).symm
  refine Rb.of (Nat.mul_pos q.den_pos r.den_pos) ?_ ?_
  · rw [Int.natAbs_mul, ← e]
    exact Nat.mul_lt_mul'' h.num k.num
  · rw [← e]
    exact Nat.mul_lt_mul'' h.den k.den
theorem value_rb {s : LineS} (h : LineOk s) {t : Int} (hr : s.ready t = true) : Rb 14 (s.value t) := by
  have hw := ready_has hr
  unfold LineS.want at hw
  have b1 := h.small (LineS.atw (hw (s.low t) (by split <;> simp)))
  obtain ⟨o1, o2, o3, o4, _, _⟩ := h
  have r0 : 0 ≤ s.rest t := Int.emod_nonneg _ (by omega)
  have r1 : s.rest t < s.pb := Int.emod_lt_of_pos _ (by omega)
  unfold LineS.value
  by_cases e : s.rest t = 0
  · rw [if_pos e]
    exact Rb.of (by decide) (by omega) (by decide)
  · rw [if_neg e] at hw ⊢
    have b2 := LineOk.small ⟨o1, o2, o3, o4, ‹_›, ‹_›⟩ (LineS.atw (hw (s.low t + 1) (by simp)))
    refine Rb.of (by omega) ?_ (by omega)
    have p1 : (s.at (s.low t) * (s.pb - s.rest t)).natAbs ≤ 999 * 8 := by
      rw [Int.natAbs_mul]
      exact Nat.mul_le_mul (by omega) (by omega)
    have p2 : (s.at (s.low t + 1) * s.rest t).natAbs ≤ 999 * 8 := by
      rw [Int.natAbs_mul]
      exact Nat.mul_le_mul (by omega) (by omega)
    omega
theorem wne : wH ≠ wR ∧ wH ≠ wO ∧ wH ≠ wF ∧ wR ≠ wO ∧ wR ≠ wF ∧ wO ≠ wF := by decide +kernel
theorem VoiceOk.give {d : Nat} {soft : Int} {v : VoiceS} (h : VoiceOk d soft v) (h1 : 1 ≤ soft) (h2 : soft ≤ 16) (t : Int) : VoiceOk d soft (v.give t soft) := by
  obtain ⟨n1, n2, n3, n4, n5, n6⟩ := wne
  obtain ⟨hl, hd, hw, hR, hF, hp, hpS, hh⟩ := h
  have hon := hd.on
  obtain ⟨D, x, y, hI, hD⟩ := id hon
  have hlev := (hI.rb hD).1
  -- a fall
  have fall : ∀ u : VoiceS, u.line = v.line → u.loud = v.loud.on → u.word = wF → 0 ≤ u.steps → u.steps < soft → Rb (d + 19) u.height → VoiceOk d soft (u.fall soft) := by
    intro u e1 e2 e3 s0 s1 hb
    have hm := (hb.mul (ratioOk (k := soft - (u.steps + 1)) (by omega) (by omega) h1 h2)).mono (show d + 19 + 5 ≤ d + 24 by omega)
    unfold VoiceS.fall
    by_cases e : u.steps + 1 = soft
    · rw [if_pos e]
      exact ⟨by rw [e1]; exact hl, by rw [e2]; exact hon, .inl rfl, fun z => absurd z n1, fun z => absurd z n3, hm, fun z => by rcases z with z | z; exact absurd z n1; exact absurd z n2, fun z => absurd z n3⟩
    · rw [if_neg e, e3]
      exact ⟨by rw [e1]; exact hl, by rw [e2]; exact hon, .inr (.inr (.inr rfl)), fun z => absurd z.symm n5, fun _ => ⟨by show 0 ≤ u.steps + 1; omega, by show u.steps + 1 < soft; omega⟩, hm, fun z => by rcases z with z | z; exact absurd z.symm n5; exact absurd z.symm n6, fun _ => hb⟩
  -- a rise
  have rise : ∀ (u : VoiceS) (x : Rat), u.line = v.line → u.loud = v.loud.on → u.word = wR → 0 ≤ u.steps → u.steps < soft → Rb (d + 14) x → VoiceOk d soft (u.rise x soft) := by
    intro u x e1 e2 e3 s0 s1 hb
    have hm := (hb.mul (ratioOk (k := u.steps + 1) (by omega) (by omega) h1 h2)).mono (show d + 14 + 5 ≤ d + 19 by omega)
    unfold VoiceS.rise
    by_cases e : u.steps + 1 = soft
    · rw [if_pos e]
      exact ⟨by rw [e1]; exact hl, by rw [e2]; exact hon, .inr (.inr (.inl rfl)), fun z => absurd z.symm n4, fun z => absurd z n6, hm.mono (by omega), fun _ => hm, fun z => absurd z n6⟩
    · rw [if_neg e, e3]
      exact ⟨by rw [e1]; exact hl, by rw [e2]; exact hon, .inr (.inl rfl), fun _ => ⟨by show 0 ≤ u.steps + 1; omega, by show u.steps + 1 < soft; omega⟩, fun z => absurd z n5, hm.mono (by omega), fun _ => hm, fun z => absurd z n5⟩
  unfold VoiceS.give
  by_cases eF : v.word = wF
  · rw [if_pos eF]
    exact fall _ rfl rfl eF (hF eF).1 (hF eF).2 (hh eF)
  · rw [if_neg eF]
    by_cases em : v.may t = true
    · rw [if_pos em]
      have hr : v.line.ready t = true := by
        unfold VoiceS.may at em
        rw [Bool.and_eq_true] at em
        exact em.2
      have hx : Rb (d + 14) (v.line.value t * v.loud.on.level) := ((value_rb hl hr).mul hlev).mono (by omega)
      unfold VoiceS.sound
      by_cases eO : v.word = wO
      · rw [if_pos eO]
        exact ⟨hl, hon, .inr (.inr (.inl eO)), fun z => absurd (eO.symm.trans z).symm n4, fun z => absurd z eF, hx.mono (by omega), fun _ => hx.mono (by omega), fun z => absurd z eF⟩
      · rw [if_neg eO]
        by_cases eH : v.word = wH
        · rw [if_pos eH]
          exact rise _ _ rfl rfl rfl (Int.le_refl 0) (by show (0 : Int) < soft; omega) hx
        · rw [if_neg eH]
          have eR : v.word = wR := by
            rcases hw with z | z | z | z
            · exact absurd z eH
            · exact z
            · exact absurd z eO
            · exact absurd z eF
          exact rise _ _ rfl rfl eR (hR eR).1 (hR eR).2 hx
    · rw [if_neg em]
      by_cases eH : v.word = wH
      · rw [if_pos eH]
        exact ⟨hl, hon, .inl eH, fun z => absurd (eH.symm.trans z) n1, fun z => absurd z eF, hp, fun z => by rcases z with z | z; exact absurd (eH.symm.trans z) n1; exact absurd (eH.symm.trans z) n2, fun z => absurd z eF⟩
      · rw [if_neg eH]
        have eS : v.word = wR ∨ v.word = wO := by
          rcases hw with z | z | z | z
          · exact absurd z eH
          · exact .inl z
          · exact .inr z
          · exact absurd z eF
        exact fall _ rfl rfl rfl (Int.le_refl 0) (by show (0 : Int) < soft; omega) (hpS eS)
end Mx

namespace Mx
open PySem L2
set_option hygiene false in
local macro_rules | `(tactic| walk_at "rd") => `(tactic| try simp only [L2.start, List.map_cons, List.map_nil, List.length_cons, List.length_nil, Nat.reduceAdd, Nat.reduceSub, Nat.reduceLT, Nat.reduceLeDiff, List.replicate_succ, List.replicate_zero, List.append_nil, List.nil_append, List.cons_append, List.set_cons_zero, List.set_cons_succ, List.getElem?_cons_zero, List.getElem?_cons_succ,
  Option.some.injEq, List.cons.injEq, and_true, true_and, and_assoc, reduceCtorEq, L2.V.int.injEq, L2.V.ref.injEq, L2.V.bl.injEq, L2.V.str.injEq, L2.V.ty.injEq, L2.HO.ins.injEq, L2.HO.lst.injEq, L2.HO.tup.injEq, L2.HO.dK.injEq, exists_eq_left', exists_eq_left, exists_eq_right, exists_eq', exists_eq, exists_and_left, exists_and_right, reduceIte, Bool.false_eq_true, Bool.not_true, Bool.not_false,
  L2.tSeq, L2.tIfS, L2.tRet, L2.tRetN, L2.tNext, L2.tAsg, L2.gName, L2.tVar, L2.tC, L2.tCons, L2.tNil, L2.tCB, L2.tOp, L2.tUn, L2.tTup, L2.tLst, L2.tB, L2.tOr, L2.tAnd, L2.tNot, L2.tAndV, L2.tOrV, L2.tNotV, L2.tIf, L2.tTest, L2.tChain, L2.rI, L2.rI0, L2.rU, L2.tDrop, L2.tNever, L2.tCall, L2.tMeth, L2.tMake, L2.rGcd, L2.tFld, L2.sFld, L2.sFldAug, Mx.sFldA, Mx.sFldAugA, L2.rAdd, L2.rSub, L2.rEq, L2.rNe, L2.tDGet, L2.tDIn, L2.tDNotIn, L2.sDPut,
  Mx.isi_int_bool, Mx.isi_int_int, Mx.isi_int_tuple, Mx.isi_int_list, Mx.isi_int_str, Mx.scal_int, Mx.scal_str, Mx.scal_bl, Mx.ofString_inj, Mx.ofString_beq, Mx.lk_cons, Mx.pf_nil, Mx.pf_cons, Mx.sz1, Mx.sz2, List.lookup_nil, String.reduceEq, decide_true, decide_false, decide_eq_true_eq, Int.natAbs_natCast, L2.upd_same, L2.upd_upd, L2.cxOf, Mx.fsV, Mx.fsD, Mx.fsL])
set_option hygiene false in
local macro_rules | `(tactic| walk_at "rds") => `(tactic| try simp only [L2.start, List.map_cons, List.map_nil, List.length_cons, List.length_nil, Nat.reduceAdd, Nat.reduceSub, Nat.reduceLT, Nat.reduceLeDiff, List.replicate_succ, List.replicate_zero, List.append_nil, List.nil_append, List.cons_append, List.set_cons_zero, List.set_cons_succ, List.getElem?_cons_zero, List.getElem?_cons_succ,
  Option.some.injEq, List.cons.injEq, and_true, true_and, and_assoc, reduceCtorEq, L2.V.int.injEq, L2.V.ref.injEq, L2.V.bl.injEq, L2.V.str.injEq, L2.V.ty.injEq, L2.HO.ins.injEq, L2.HO.lst.injEq, L2.HO.tup.injEq, L2.HO.dK.injEq, exists_eq_left', exists_eq_left, exists_eq_right, exists_eq', exists_eq, exists_and_left, exists_and_right, reduceIte, Bool.false_eq_true, Bool.not_true, Bool.not_false,
  L2.tSeq, L2.tIfS, L2.tRet, L2.tRetN, L2.tNext, L2.tAsg, L2.gName, L2.tVar, L2.tC, L2.tCons, L2.tNil, L2.tCB, L2.tOp, L2.tUn, L2.tTup, L2.tLst, L2.tB, L2.tOr, L2.tAnd, L2.tNot, L2.tAndV, L2.tOrV, L2.tNotV, L2.tIf, L2.tTest, L2.tChain, L2.rI, L2.rI0, L2.rU, L2.tDrop, L2.tNever, L2.tCall, L2.tMeth, L2.tMake, L2.rGcd, L2.tFld, L2.sFld, L2.sFldAug, Mx.sFldA, Mx.sFldAugA, L2.rAdd, L2.rSub, L2.rEq, L2.rNe, L2.tDGet, L2.tDIn, L2.tDNotIn, L2.sDPut,
  Mx.isi_int_bool, Mx.isi_int_int, Mx.isi_int_tuple, Mx.isi_int_list, Mx.isi_int_str, Mx.scal_int, Mx.scal_str, Mx.scal_bl, Mx.ofString_inj, Mx.ofString_beq, Mx.lk_cons, Mx.pf_nil, Mx.pf_cons, Mx.sz1, Mx.sz2, List.lookup_nil, String.reduceEq, decide_true, decide_false, decide_eq_true_eq, Int.natAbs_natCast, L2.upd_same, L2.upd_upd, L2.cxOf, Mx.fsV, Mx.fsD, Mx.fsL, *])

section
variable {P : Program} {w : World} {K : PySem.W.Frag} {mg : Str → Option Value} {base : Heap} {cs : Cs}
def sp_Voice_init (K : PySem.W.Frag) (cs : Cs) : Sp := fun vs H Q _ => ∃ (a dx t : Addr) (pn pb b n : Int), vs = [.ref a, .ref t, .int b, .int n] ∧ H a = some (.ins cs.V dx []) ∧ H t = some (.tup [.int pn, .int pb]) ∧
  ∀ (A : VA) H', A.a = a → (∀ b ∈ A.foot, b = a ∨ H b = none) → VoiceAt K cs H' A ⟨⟨pn, pb, b, [], 0, none⟩, ⟨mkRat n 64, 0, 0⟩, true, wH, 0, 0, 0⟩ → Stp [a] H H' → Q .non H'
theorem sc_Voice_init : FnScope ["self", "pace", "begin", "loudness"] ["self", "pace", "begin", "loudness"] (defScope s_Voice_init) := ⟨rfl, rfl, rfl, by decide +kernel, rfl, by decide +kernel, by decide +kernel⟩
theorem stp_made {H : Hp} {x dx C : Addr} (hx : H x = none) (hd : H dx = none) : Stp [] H (upd (upd H dx (.own x)) x (.ins C dx [])) := .of fun b o e => by
  rw [upd_ne (ne_of_none e hx), upd_ne (ne_of_none e hd)]
  exact e
theorem ok_Voice_init {f : Addr} {fd : FuncData} (F : Fun K "__init__" "Voice.__init__" s_Voice_init f fd) (T : TV K cs.V) (TT : TC K mg) (GL : OwnC P w K mg base cs.L "Line" 1 ["self", "pace", "begin"] (sp_Line_init K cs.L))
    (GD : OwnC P w K mg base cs.D "Loudness" 2 ["self", "loudness"] (sp_Loudness_init K cs.D)) : FnOk P w K mg base CX0 4 f fd ["self", "pace", "begin", "loudness"] (sp_Voice_init K cs) := by
  refine F.ok sc_Voice_init (fun vs H Q E h => ?_) (fun cdv A outer s H vs Q E hr h => ?_)
  · obtain ⟨a, dx, t, pn, pb, b, n, rfl, _⟩ := h
    rfl
  · obtain ⟨a, dx, t, pn, pb, b, n, rfl, ha, ht, k⟩ := h
    obtain ⟨cl, a1, a2, a3, a4, a5, a6, a7⟩ := T
    obtain ⟨aN, hN, hN2⟩ := TT.nothing
    obtain ⟨tH, hH⟩ := TT.hushed
    refine ⟨_, pss_cons (ps_fldA (pv 0) (p_make GL (hr.mono (by decide)) (pa_cons (pv 1) (pa_cons (pv 2) pa_nil))) rfl)
      (pss_cons (ps_fldA (pv 0) (p_make GD hr (pa_cons (pv 3) pa_nil)) rfl)
      (pss_cons (ps_fldA (pv 0) pe_bl rfl) (pss_cons (ps_fldA (pv 0) (pe_glob (v := .str "hushed") (by rfl) hH ⟨_, rfl⟩) rfl) (pss_cons (ps_fldA (pv 0) pe_int rfl)
      (pss_cons (ps_fldA (pv 0) (pe_glob (v := .ref aN) (by rfl) hN rfl) rfl) (pss_one (ps_fldA (pv 0) (pe_glob (v := .ref aN) (by rfl) hN rfl) rfl))))))), ?_⟩
    walk_at "rds"
    intro l dl hl hdl hdn
    have s1 := stp_made (C := cs.L) hl hdl
    have e1 : upd (upd H dl (.own l)) l (.ins cs.L dl []) l = some (.ins cs.L dl []) := upd_same
    generalize upd (upd H dl (.own l)) l (.ins cs.L dl []) = H1 at *
    refine ⟨l, dl, t, pn, pb, b, rfl, e1, s1.tup _ _ ht, fun c H2 hc hL2 s2 => ⟨rfl, ?_⟩⟩
    have hla : a ≠ l := ne_of_none ha hl
    have f2 := (s2.keep _ _ (s1.keep _ _ ha (by simp)) (by simpa using hla))
    have hcl : l ≠ c := hL2.ne
    have hca : a ≠ c := ne_of_none (s1.keep _ _ ha (by simp)) hc
    have hc0 : H c = none := s1.free hc (by simp)
    walk_at "rds"
    intro H3 g3 s3
    have hL3 := hL2.st s3 (by simpa using hla.symm) (by simpa using hca.symm)
    intro q dq hq hdq hqn
    have s4 := stp_made (C := cs.D) hq hdq
    have e4 : upd (upd H3 dq (.own q)) q (.ins cs.D dq []) q = some (.ins cs.D dq []) := upd_same
    generalize upd (upd H3 dq (.own q)) q (.ins cs.D dq []) = H4 at *
    refine ⟨q, dq, n, rfl, e4, fun H5 hD5 s5 => ⟨rfl, ?_⟩⟩
    have hqa : a ≠ q := ne_of_none g3 hq
    have hql : l ≠ q := by
      obtain ⟨_, _, z, _⟩ := hL3.ob
      exact ne_of_none z hq
    have hqc : c ≠ q := ne_of_none hL3.dc hq
    have g5 := s5.keep _ _ (s4.keep _ _ g3 (by simp)) (by simpa using hqa)
    have hL5 := (hL3.st0 s4).st s5 (by simpa using hql) (by simpa using hqc)
    have hq0 : H q = none := by
      have := s3.free hq (by simpa using hqa.symm)
      have := s2.free this (by simpa using hql.symm)
      exact s1.free this (by simp)
    have t5 := ((s1.trans s2).trans s3).trans (s4.trans s5)
    walk_at "rds"
    intro H6 g6 s6
    walk_at "rds"
    intro H7 g7 s7
    walk_at "rds"
    intro H8 g8 s8
    walk_at "rds"
    intro H9 g9 s9
    walk_at "rds"
    intro Hy gy sy
    walk_at "rds"
    intro Hx gx sx
    have tx := s6.trans (s7.trans (s8.trans (s9.trans (sy.trans sx))))
    have na : ∀ z, a ≠ z → z ∉ [a] ++ ([a] ++ ([a] ++ ([a] ++ ([a] ++ [a])))) := fun z hz => by simpa using Ne.symm hz
    refine k ⟨a, l, c, q⟩ _ rfl (fun b hb => ?_) ⟨⟨dx, _, _, gx, isQ0 hN2, isQ0 hN2⟩, hL5.st tx (na _ hla) (na _ hca), hD5.st tx (na _ hqa), ?_⟩ ?_
    · simp only [VA.foot, List.mem_cons, List.not_mem_nil, or_false] at hb
      rcases hb with e | e | e | e <;> subst e
      · exact .inl rfl
      · exact .inr hl
      · exact .inr hc0
      · exact .inr hq0
    · simp [VA.foot, hla, hca, hqa, hcl, hql, hqc]
    · refine (t5.trans tx).subN fun z hz => ?_
      simp only [List.nil_append, List.append_assoc, List.mem_append, List.mem_cons, List.not_mem_nil, or_false, List.mem_singleton] at hz
      rcases hz with e | e | e | e | e | e | e | e | e
      · exact .inr (e ▸ hl)
      · exact .inl (by simp [e])
      · exact .inr (e ▸ hq0)
      all_goals exact .inl (by simp [e])

theorem sound_ll (u : VoiceS) (x : Rat) (soft : Int) : (u.sound x soft).line = u.line ∧ (u.sound x soft).loud = u.loud := by
  unfold VoiceS.sound
  by_cases e : u.word = wO
  · rw [if_pos e]
    exact ⟨rfl, rfl⟩
  · rw [if_neg e]
    by_cases e2 : u.word = wH
    · rw [if_pos e2]
      exact ⟨rfl, rfl⟩
    · rw [if_neg e2]
      exact ⟨rfl, rfl⟩
theorem give_ll (v : VoiceS) (t soft : Int) : (v.give t soft).line = v.line ∧ (v.give t soft).loud = v.loud.on := by
  unfold VoiceS.give
  by_cases e : v.word = wF
  · rw [if_pos e]
    exact ⟨rfl, rfl⟩
  · rw [if_neg e]
    by_cases e2 : v.may t = true
    · rw [if_pos e2]
      exact sound_ll _ _ _
    · rw [if_neg e2]
      by_cases e3 : v.word = wH
      · rw [if_pos e3]
        exact ⟨rfl, rfl⟩
      · rw [if_neg e3]
        exact ⟨rfl, rfl⟩
theorem give_line (v : VoiceS) (t soft : Int) : (v.give t soft).line = v.line := (give_ll v t soft).1
theorem give_loud (v : VoiceS) (t soft : Int) : (v.give t soft).loud = v.loud.on := (give_ll v t soft).2
def sp_Voice_give (K : PySem.W.Frag) (cs : Cs) : Sp := fun vs H Q _ => ∃ (A : VA) (v : VoiceS) (t soft : Int) (d : Nat), vs = [.ref A.a, .int t, .int soft] ∧ VoiceAt K cs H A v ∧ VoiceOk d soft v ∧ 1 ≤ soft ∧ soft ≤ 16 ∧ 0 < d ∧ 2 * d < 8900 ∧
  ∀ r H', IsQ K H' r (v.give t soft).part → VoiceAt K cs H' A (v.give t soft) → Stp A.foot H H' → Q r H'
theorem sc_Voice_give : FnScope ["self", "beat", "soft", "may_sound"] ["self", "beat", "soft"] (defScope s_Voice_give) := ⟨rfl, rfl, rfl, by decide +kernel, rfl, by decide +kernel, by decide +kernel⟩
theorem ok_Voice_give {f : Addr} {fd : FuncData} (F : Fun K "give" "Voice.give" s_Voice_give f fd) (T : TV K cs.V) (TDD : TD K cs.D) (TT : TC K mg)
    (G1 : OwnM P w K mg base cs.D "lead_on" 3 ["self"] (sp_Loudness_lead_on K cs.D)) (G2 : OwnM P w K mg base cs.L "ready" 6 ["self", "beat"] (sp_Line_bool cs.L LineS.ready)) (G3 : OwnM P w K mg base cs.V "fall" 3 ["self", "soft"] (sp_Voice_fall K cs.V))
    (G4 : OwnM P w K mg base cs.L "value" 2 ["self", "beat"] (sp_Line_value cs.L)) (G5 : OwnM P w K mg base cs.V "sound" 4 ["self", "whole", "soft"] (sp_Voice_sound K cs.V)) (G6 : OwnM P w K mg base cs.V "begin_fall" 4 ["self", "soft"] (sp_Voice_begin_fall K cs.V))
    (GT : OwnF P w K mg base "times" 2 ["one", "other"] (sp_two (· * ·) K)) : FnOk P w K mg base CX0 7 f fd ["self", "beat", "soft"] (sp_Voice_give K cs) := by
  refine F.ok sc_Voice_give (fun vs H Q E h => ?_) (fun cdv A outer s H vs Q E hr h => ?_)
  · obtain ⟨A, v, t, soft, d, rfl, _⟩ := h
    rfl
  · obtain ⟨A, v, t, soft, d, rfl, hV, hO, hs1, hs2, hd0, hd, k⟩ := h
    obtain ⟨tH, hH⟩ := TT.hushed
    obtain ⟨tF, hF⟩ := TT.falling
    refine ⟨_, pss_cons (ps_expr (p_meth0 G1 (hr.mono (by decide)) (pe_fld (pv 0) rfl)))
      (pss_cons (ps_set (i := 3) sc_Voice_give.nd rfl (.inl rfl) (pe_and (pe_fld (pv 0) rfl) (pe_one (p_meth G2 hr (pe_fld (pv 0) rfl) (pa_cons (pv 1) pa_nil)))))
      (pss_cons (ps_if (pt_cmpR op_eq (pe_fld (pv 0) rfl) (pe_glob (v := .str "falling") (by rfl) hF ⟨_, rfl⟩) (nomark _)) (pss_one (ps_expr (p_meth G3 (hr.mono (by decide)) (pv 0) (pa_cons (pv 2) pa_nil))))
        (pss_one (ps_if (pt_val (pv 3)) (pss_one (ps_expr (p_meth G5 (hr.mono (by decide)) (pv 0) (pa_cons (p_call GT (hr.mono (by decide)) (pa_cons (p_meth G4 (hr.mono (by decide)) (pe_fld (pv 0) rfl) (pa_cons (pv 1) pa_nil)) (pa_cons (pe_fld (pe_fld (pv 0) rfl) rfl) pa_nil))) (pa_cons (pv 2) pa_nil)))))
          (pss_one (ps_if (pt_cmpR op_ne (pe_fld (pv 0) rfl) (pe_glob (v := .str "hushed") (by rfl) hH ⟨_, rfl⟩) (nomark _)) (pss_one (ps_expr (p_meth G6 (hr.mono (by decide)) (pv 0) (pa_cons (pv 2) pa_nil)))) pss_nil)))))
      (pss_one (ps_ret (pe_fld (pv 0) rfl))))), ?_⟩
    obtain ⟨dcl, da1, da2, da3⟩ := TDD
    obtain ⟨cl, a1, a2, a3, a4, a5, a6, a7⟩ := T
    obtain ⟨hVo, hVl, hVd, hnd⟩ := hV
    obtain ⟨dx, pv', hv', h1, h2, h3⟩ := id hVo
    obtain ⟨dq, lv, st, q1, q2, q3⟩ := id hVd
    walk_at "rds"
    refine ⟨A.q, v.loud, d, rfl, hVd, hO.loud, hd0, by omega, fun H1 hD1 s1 => ?_⟩
    have nal : A.a ≠ A.l ∧ A.a ≠ A.c ∧ A.a ≠ A.q ∧ A.l ≠ A.c ∧ A.l ≠ A.q ∧ A.c ≠ A.q := by
      simp only [VA.foot, List.nodup_cons, List.mem_cons, List.not_mem_nil, or_false, not_or, List.nodup_nil, and_true, not_false_eq_true] at hnd
      exact ⟨hnd.1.1, hnd.1.2.1, hnd.1.2.2, hnd.2.1.1, hnd.2.1.2, hnd.2.2⟩
    obtain ⟨nal1, nac, naq, nlc, nlq, ncq⟩ := nal
    have hL1 := hVl.st s1 (by simpa using nlq) (by simpa using ncq)
    have h1a := s1.keep _ _ h1 (by simpa using naq)
    obtain ⟨dl, tpl, hl1, _⟩ := id hL1.ob
    walk_at "rds"
    have main : ∀ (H2 : Hp), Stp [] H1 H2 → (∀ r H', IsQ K H' r (v.give t soft).part → VObj K cs.V H' A.a A.l A.q (v.give t soft) → Stp [A.a] H2 H' → Q r H') := by
      intro H2 s2 r H' hq hv s3
      refine k r H' hq ⟨hv, ?_, ?_, hnd⟩ (((s1.trans s2).trans s3).sub (by simp [VA.foot]))
      · have e : (v.give t soft).line = v.line := give_line v t soft
        rw [e]
        exact (hL1.st0 s2).st s3 (by simpa using nal1.symm) (by simpa using nac.symm)
      · have e : (v.give t soft).loud = v.loud.on := give_loud v t soft
        rw [e]
        exact (hD1.st s2 (by simp)).st s3 (by simpa using naq.symm)
    have fin : ∀ (H2 H3 : Hp) (u : VoiceS), Stp [] H1 H2 → v.give t soft = u → VObj K cs.V H3 A.a A.l A.q u → Stp [A.a] H2 H3 → tFld K (tVar 0) "part" [some (.ref A.a), some (.int t), some (.int soft), some (.bl (v.may t))] H3 Q := by
      intro H2 H3 u s2 eu hv s3
      obtain ⟨dy, pv2, hv2, g1, g2, g3⟩ := id hv
      refine ⟨_, rfl, A.a, cs.V, dy, _, pv2, rfl, g1, cl, a6, ?_, main H2 s2 _ _ (by rw [eu]; exact g2) (by rw [eu]; exact hv) s3⟩
      walk_at "rd"
    have hVo1 : VObj K cs.V H1 A.a A.l A.q { v with loud := v.loud.on } := by
      obtain ⟨dy, pv2, hv2, g1, g2, g3⟩ := hVo.st s1 (by simpa using naq)
      exact ⟨dy, pv2, hv2, g1, g2, g3⟩
    cases eh : v.heard with
    | false =>
      have em : v.may t = false := by unfold VoiceS.may; rw [eh]; rfl
      walk_at "rds"
      have s2 : Stp [] H1 H1 := Stp.refl
      have hVo2 := hVo1
      by_cases eF : v.word = wF
      · have eu : v.give t soft = VoiceS.fall { v with loud := v.loud.on } soft := by
          unfold VoiceS.give
          rw [if_pos eF]
        rw [if_pos (show v.word = Str.ofString "falling" from eF)]
        refine ⟨A.a, A.l, A.q, { v with loud := v.loud.on }, soft, d + 19, rfl, hVo2, hs1, hs2, (hO.stF eF).1, (hO.stF eF).2, hO.height eF, by omega, by omega, fun H3 hv s3 => ?_⟩
        obtain ⟨dy, pv2, hv2, g1, g2, g3⟩ := id hv
        walk_at "rds"
        exact main H1 s2 _ _ (by rw [eu]; exact g2) (by rw [eu]; exact hv) s3
      · rw [if_neg (show ¬ v.word = Str.ofString "falling" from eF)]
        by_cases eH : v.word = wH
        · have eu : v.give t soft = { v with loud := v.loud.on } := by
            unfold VoiceS.give
            rw [if_neg eF, if_neg (by rw [em]; decide), if_pos eH]
          rw [decide_eq_true (show v.word = Str.ofString "hushed" from eH)]
          walk_at "rd"
          obtain ⟨dy, pv2, hv2, g1, g2, g3⟩ := id hVo2
          exact main H1 s2 _ _ (by rw [eu]; exact (h2.st s1).st s2) (by rw [eu]; exact hVo2) (Stp.refl.sub (by simp))
        · have eu : v.give t soft = VoiceS.beginFall { v with loud := v.loud.on } soft := by
            unfold VoiceS.give
            rw [if_neg eF, if_neg (by rw [em]; decide), if_neg eH]
          have eS : v.word = wR ∨ v.word = wO := by
            rcases hO.word with z | z | z | z
            · exact absurd z eH
            · exact .inl z
            · exact .inr z
            · exact absurd z eF
          rw [decide_eq_false (show ¬ v.word = Str.ofString "hushed" from eH)]
          walk_at "rd"
          refine ⟨A.a, A.l, A.q, { v with loud := v.loud.on }, soft, d + 19, rfl, hVo2, hs1, hs2, hO.partS eS, by omega, by omega, fun H3 hv s3 => ?_⟩
          obtain ⟨dy, pv2, hv2, g1, g2, g3⟩ := id hv
          walk_at "rds"
          exact main H1 s2 _ _ (by rw [eu]; exact g2) (by rw [eu]; exact hv) s3
    | true =>
      walk_at "rds"
      refine ⟨A.l, A.c, v.line, t, rfl, hL1, hO.line, fun H2 s2 => ?_⟩
      have em : v.may t = v.line.ready t := by unfold VoiceS.may; rw [eh]; rfl
      have hVo2 := hVo1.st s2 (by simp)
      have h2a := s2.keep _ _ h1a (by simp)
      have h2l := s2.keep _ _ hl1 (by simp)
      cases er : v.line.ready t with
      | false =>
        rw [er] at em
        walk_at "rds"
        by_cases eF : v.word = wF
        · have eu : v.give t soft = VoiceS.fall { v with loud := v.loud.on } soft := by
            unfold VoiceS.give
            rw [if_pos eF]
          rw [if_pos (show v.word = Str.ofString "falling" from eF)]
          refine ⟨A.a, A.l, A.q, { v with loud := v.loud.on }, soft, d + 19, rfl, hVo2, hs1, hs2, (hO.stF eF).1, (hO.stF eF).2, hO.height eF, by omega, by omega, fun H3 hv s3 => ?_⟩
          obtain ⟨dy, pv2, hv2, g1, g2, g3⟩ := id hv
          walk_at "rds"
          exact main H2 s2 _ _ (by rw [eu]; exact g2) (by rw [eu]; exact hv) s3
        · rw [if_neg (show ¬ v.word = Str.ofString "falling" from eF)]
          by_cases eH : v.word = wH
          · have eu : v.give t soft = { v with loud := v.loud.on } := by
              unfold VoiceS.give
              rw [if_neg eF, if_neg (by rw [em]; decide), if_pos eH]
            rw [decide_eq_true (show v.word = Str.ofString "hushed" from eH)]
            walk_at "rd"
            obtain ⟨dy, pv2, hv2, g1, g2, g3⟩ := id hVo2
            exact main H2 s2 _ _ (by rw [eu]; exact (h2.st s1).st s2) (by rw [eu]; exact hVo2) (Stp.refl.sub (by simp))
          · have eu : v.give t soft = VoiceS.beginFall { v with loud := v.loud.on } soft := by
              unfold VoiceS.give
              rw [if_neg eF, if_neg (by rw [em]; decide), if_neg eH]
            have eS : v.word = wR ∨ v.word = wO := by
              rcases hO.word with z | z | z | z
              · exact absurd z eH
              · exact .inl z
              · exact .inr z
              · exact absurd z eF
            rw [decide_eq_false (show ¬ v.word = Str.ofString "hushed" from eH)]
            walk_at "rd"
            refine ⟨A.a, A.l, A.q, { v with loud := v.loud.on }, soft, d + 19, rfl, hVo2, hs1, hs2, hO.partS eS, by omega, by omega, fun H3 hv s3 => ?_⟩
            obtain ⟨dy, pv2, hv2, g1, g2, g3⟩ := id hv
            walk_at "rds"
            exact main H2 s2 _ _ (by rw [eu]; exact g2) (by rw [eu]; exact hv) s3
      | true =>
        rw [er] at em
        walk_at "rds"
        by_cases eF : v.word = wF
        · have eu : v.give t soft = VoiceS.fall { v with loud := v.loud.on } soft := by
            unfold VoiceS.give
            rw [if_pos eF]
          rw [if_pos (show v.word = Str.ofString "falling" from eF)]
          refine ⟨A.a, A.l, A.q, { v with loud := v.loud.on }, soft, d + 19, rfl, hVo2, hs1, hs2, (hO.stF eF).1, (hO.stF eF).2, hO.height eF, by omega, by omega, fun H3 hv s3 => ?_⟩
          obtain ⟨dy, pv2, hv2, g1, g2, g3⟩ := id hv
          walk_at "rds"
          exact main H2 s2 _ _ (by rw [eu]; exact g2) (by rw [eu]; exact hv) s3
        · rw [if_neg (show ¬ v.word = Str.ofString "falling" from eF)]
          have eu : v.give t soft = VoiceS.sound { v with loud := v.loud.on } (v.line.value t * v.loud.on.level) soft := by
            unfold VoiceS.give
            rw [if_neg eF, if_pos (by rw [em])]
          refine ⟨A.l, A.c, v.line, t, rfl, hL1.st0 s2, hO.line, er, fun p Ha hp sa la => ?_⟩
          obtain ⟨dqa, lva, sta, qa1, qa2, qa3⟩ := (hD1.st s2 (by simp)).st sa (by simp)
          have hla := sa.keep _ _ (s2.keep _ _ h1a (by simp)) (by simp)
          obtain ⟨al, rfl, qa2'⟩ := qa2
          obtain ⟨DD, xx, yy, hII, hDD⟩ := hO.loud.on
          have hlev := (hII.rb hDD).1
          have hx : Rb (d + 14) (v.line.value t * v.loud.on.level) := ((value_rb hO.line er).mul hlev).mono (by omega)
          walk_at "rds"
          refine ⟨p, al, _, _, 14, d, rfl, .inl la, qa2', value_rb hO.line er, hlev, by omega, by decide, hd0, fun pw Hb hpw sb lb => ?_⟩
          have eS : v.word = wH ∨ v.word = wR ∨ v.word = wO := by
            rcases hO.word with z | z | z | z
            · exact .inl z
            · exact .inr (.inl z)
            · exact .inr (.inr z)
            · exact absurd z eF
          have hlb := sb.keep _ _ hla (by simp)
          walk_at "rds"
          refine ⟨A.a, A.l, A.q, { v with loud := v.loud.on }, _, _, soft, d + 14, rfl, (hVo2.st sa (by simp)).st sb (by simp), isQ_of lb, hs1, hs2, hO.stR, eS, hx, by omega, by omega, fun H3 hv s3' => ?_⟩
          have s3 := ((sa.trans sb).trans s3').sub (G := [A.a]) (by simp)
          obtain ⟨dy, pv2, hv2, g1, g2, g3⟩ := id hv
          walk_at "rds"
          exact main H2 s2 _ _ (by rw [eu]; exact g2) (by rw [eu]; exact hv) s3
end
end Mx

namespace Mx
open PySem L2
/-! ### the mixer -/
abbrev MV := Int × VA × VoiceS
structure MixS where
  soft : Int
  coming : Int
  vs : List MV
  lacked : List (Int × Int)
def fsM (d k : Addr) (soft coming : Int) : List (Str × V) := [("soft", .int soft), ("coming", .int coming), ("voices", .ref d), ("lacked", .ref k)]
def vdict (vs : List MV) : List (Key × V) := vs.map fun e => (Sum.inl e.1, V.ref e.2.1.a)
def IsPair (H : Hp) (v : V) (p : Int × Int) : Prop := ∃ a, v = .ref a ∧ H a = some (.tup [.int p.1, .int p.2])
structure MixAt (K : PySem.W.Frag) (cs : Cs) (H : Hp) (m d k : Addr) (s : MixS) : Prop where
  ob : ∃ dx, H m = some (.ins cs.M dx (fsM d k s.soft s.coming))
  dv : H d = some (.dK (vdict s.vs))
  lk : ∃ ls, H k = some (.lst ls) ∧ Paired (IsPair H) ls s.lacked
  vo : ∀ e ∈ s.vs, VoiceAt K cs H e.2.1 e.2.2
  ap : ∀ e ∈ s.vs, m ∉ e.2.1.foot ∧ d ∉ e.2.1.foot ∧ k ∉ e.2.1.foot
  dj : ∀ e ∈ s.vs, ∀ f ∈ s.vs, e.1 ≠ f.1 → ∀ b ∈ e.2.1.foot, b ∉ f.2.1.foot
  nm : (s.vs.map (·.1)).Nodup
def MixS.foot (m d k : Addr) (s : MixS) : List Addr := m :: d :: k :: s.vs.flatMap fun e => e.2.1.foot
theorem IsPair.st {F : List Addr} {H H' : Hp} {v : V} {p : Int × Int} (h : IsPair H v p) (s : Stp F H H') : IsPair H' v p := by
  obtain ⟨a, e, g⟩ := h
  exact ⟨a, e, s.tup _ _ g⟩
theorem pairs_st {F : List Addr} {H H' : Hp} (s : Stp F H H') : ∀ {ls : List V} {ps : List (Int × Int)}, Paired (IsPair H) ls ps → Paired (IsPair H') ls ps
  | _, _, .nil => .nil
  | _, _, .cons h r => .cons (h.st s) (pairs_st s r)
theorem MixAt.ne {K : PySem.W.Frag} {cs : Cs} {H : Hp} {m d k : Addr} {s : MixS} (h : MixAt K cs H m d k s) : m ≠ d ∧ m ≠ k ∧ d ≠ k := by
  obtain ⟨⟨dx, h1⟩, h2, ⟨ls, h3, _⟩, _⟩ := h
  exact ⟨ne_of h1 h2 (fun z => nomatch z), ne_of h1 h3 (fun z => nomatch z), ne_of h2 h3 (fun z => nomatch z)⟩
theorem MixAt.st {K : PySem.W.Frag} {cs : Cs} {F : List Addr} {H H' : Hp} {m d k : Addr} {s : MixS} (h : MixAt K cs H m d k s) (g : Stp F H H') (n : ∀ b ∈ s.foot m d k, b ∉ F) : MixAt K cs H' m d k s := by
  obtain ⟨⟨dx, h1⟩, h2, ⟨ls, h3, h4⟩, h5, h6, h7, h8⟩ := h
  refine ⟨⟨dx, g.keep _ _ h1 (n _ (by simp [MixS.foot]))⟩, g.keep _ _ h2 (n _ (by simp [MixS.foot])), ⟨ls, g.keep _ _ h3 (n _ (by simp [MixS.foot])), pairs_st g h4⟩, fun e he => (h5 e he).st g fun b hb => n b ?_, h6, h7, h8⟩
  unfold MixS.foot
  exact List.mem_cons_of_mem _ (List.mem_cons_of_mem _ (List.mem_cons_of_mem _ (List.mem_flatMap.mpr ⟨e, he, hb⟩)))
theorem MixAt.st0 {K : PySem.W.Frag} {cs : Cs} {H H' : Hp} {m d k : Addr} {s : MixS} (h : MixAt K cs H m d k s) (g : Stp [] H H') : MixAt K cs H' m d k s := h.st g (by simp)
theorem MixAt.some {K : PySem.W.Frag} {cs : Cs} {H : Hp} {m d k : Addr} {s : MixS} (h : MixAt K cs H m d k s) : ∀ b ∈ s.foot m d k, H b ≠ none := by
  obtain ⟨⟨dx, h1⟩, h2, ⟨ls, h3, h4⟩, h5, h6, h7, h8⟩ := h
  intro b hb
  unfold MixS.foot at hb
  rcases List.mem_cons.mp hb with e | hb
  · rw [e, h1]; exact fun z => nomatch z
  rcases List.mem_cons.mp hb with e | hb
  · rw [e, h2]; exact fun z => nomatch z
  rcases List.mem_cons.mp hb with e | hb
  · rw [e, h3]; exact fun z => nomatch z
  obtain ⟨e, he, hb⟩ := List.mem_flatMap.mp hb
  exact (h5 e he).some b hb
/-- the voice of a name turned -/
def setV (vs : List MV) (n : Int) (v : VoiceS) : List MV := vs.map fun e => if e.1 = n then (e.1, e.2.1, v) else e
theorem setV_names (vs : List MV) (n : Int) (v : VoiceS) : (setV vs n v).map (·.1) = vs.map (·.1) := by
  unfold setV
  rw [List.map_map]
  refine List.map_congr_left fun e _ => ?_
  show (if e.1 = n then (e.1, e.2.1, v) else e).1 = e.1
  split <;> rfl
theorem setV_dict (vs : List MV) (n : Int) (v : VoiceS) : vdict (setV vs n v) = vdict vs := by
  unfold vdict setV
  rw [List.map_map]
  refine List.map_congr_left fun e _ => ?_
  show ((Sum.inl (if e.1 = n then (e.1, e.2.1, v) else e).1, V.ref (if e.1 = n then (e.1, e.2.1, v) else e).2.1.a) : Key × V) = _
  split <;> rfl
theorem setV_mem {vs : List MV} {n : Int} {v : VoiceS} {f : MV} (h : f ∈ setV vs n v) : ∃ e ∈ vs, e.1 = f.1 ∧ e.2.1 = f.2.1 ∧ (f.1 = n ∧ f.2.2 = v ∨ f.1 ≠ n ∧ f = e) := by
  unfold setV at h
  obtain ⟨e, he, rfl⟩ := List.mem_map.mp h
  refine ⟨e, he, ?_⟩
  by_cases q : e.1 = n
  · rw [if_pos q]
    exact ⟨rfl, rfl, .inl ⟨q, rfl⟩⟩
  · rw [if_neg q]
    exact ⟨rfl, rfl, .inr ⟨q, rfl⟩⟩
theorem setV_foot (vs : List MV) (n : Int) (v : VoiceS) : ((setV vs n v).flatMap fun e => e.2.1.foot) = vs.flatMap fun e => e.2.1.foot := by
  unfold setV
  induction vs with
  | nil => rfl
  | cons e r ih =>
    rw [List.map_cons, List.flatMap_cons, List.flatMap_cons, ih]
    congr 1
    split <;> rfl
theorem nodup_inj {vs : List MV} (h : (vs.map (·.1)).Nodup) {e f : MV} (he : e ∈ vs) (hf : f ∈ vs) (q : e.1 = f.1) : e = f := by
  induction vs with
  | nil => cases he
  | cons x r ih =>
    rw [List.map_cons, List.nodup_cons] at h
    rcases List.mem_cons.mp he with a | a <;> rcases List.mem_cons.mp hf with b | b
    · rw [a, b]
    · exact absurd (List.mem_map.mpr ⟨f, b, by rw [← q, a]⟩) h.1
    · exact absurd (List.mem_map.mpr ⟨e, a, by rw [q, b]⟩) h.1
    · exact ih h.2 a b
theorem MixAt.turn {K : PySem.W.Frag} {cs : Cs} {F : List Addr} {H H' : Hp} {m d k : Addr} {s : MixS} (h : MixAt K cs H m d k s) {e : MV} (he : e ∈ s.vs) {v : VoiceS} (g : Stp F H H') (hF : ∀ b ∈ F, b ∈ e.2.1.foot) (hv : VoiceAt K cs H' e.2.1 v) : MixAt K cs H' m d k { s with vs := setV s.vs e.1 v } := by
  obtain ⟨⟨dx, h1⟩, h2, ⟨ls, h3, h4⟩, h5, h6, h7, h8⟩ := h
  have q := h6 e he
  refine ⟨⟨dx, g.keep _ _ h1 fun z => q.1 (hF _ z)⟩, ?_, ⟨ls, g.keep _ _ h3 fun z => q.2.2 (hF _ z), pairs_st g h4⟩, fun f hf => ?_, fun f hf => ?_, fun f hf f' hf' hn => ?_, ?_⟩
  · show H' d = Option.some (.dK (vdict (setV s.vs e.1 v)))
    rw [setV_dict]
    exact g.keep _ _ h2 fun z => q.2.1 (hF _ z)
  · obtain ⟨e', he', e1, e2, c⟩ := setV_mem hf
    rcases c with ⟨c1, c2⟩ | ⟨c1, c2⟩
    · rw [c2, ← e2]
      have : e' = e := by
        have w1 : e'.1 = e.1 := e1.trans c1
        exact nodup_inj h8 he' he w1
      rw [this]
      exact hv
    · rw [c2]
      exact (h5 e' he').st g fun b hb z => h7 e' he' e he (by rw [e1]; exact c1) b hb (hF b z)
  · obtain ⟨e', he', e1, e2, _⟩ := setV_mem hf
    rw [← e2]
    exact h6 e' he'
  · obtain ⟨e', he', e1, e2, _⟩ := setV_mem hf
    obtain ⟨e'', he'', e1', e2', _⟩ := setV_mem hf'
    rw [← e2, ← e2']
    exact h7 e' he' e'' he'' (by rw [e1, e1']; exact hn)
  · show ((setV s.vs e.1 v).map (·.1)).Nodup
    rw [setV_names]
    exact h8
end Mx

namespace Mx
open PySem L2
set_option hygiene false in
local macro_rules | `(tactic| walk_at "rd") => `(tactic| try simp only [L2.start, List.map_cons, List.map_nil, List.length_cons, List.length_nil, Nat.reduceAdd, Nat.reduceSub, Nat.reduceLT, Nat.reduceLeDiff, List.replicate_succ, List.replicate_zero, List.append_nil, List.nil_append, List.cons_append, List.set_cons_zero, List.set_cons_succ, List.getElem?_cons_zero, List.getElem?_cons_succ,
  Option.some.injEq, List.cons.injEq, and_true, true_and, and_assoc, reduceCtorEq, L2.V.int.injEq, L2.V.ref.injEq, L2.V.bl.injEq, L2.V.str.injEq, L2.V.ty.injEq, L2.HO.ins.injEq, L2.HO.lst.injEq, L2.HO.tup.injEq, L2.HO.dK.injEq, exists_eq_left', exists_eq_left, exists_eq_right, exists_eq', exists_eq, exists_and_left, exists_and_right, reduceIte, Bool.false_eq_true, Bool.not_true, Bool.not_false,
  L2.tSeq, L2.tIfS, L2.tRet, L2.tRetN, L2.tNext, L2.tAsg, L2.gName, L2.tVar, L2.tC, L2.tCons, L2.tNil, L2.tCB, L2.tOp, L2.tUn, L2.tTup, L2.tLst, L2.tB, L2.tOr, L2.tAnd, L2.tNot, L2.tAndV, L2.tOrV, L2.tNotV, L2.tIf, L2.tTest, L2.tChain, L2.rI, L2.rI0, L2.rU, L2.tDrop, L2.tNever, L2.tCall, L2.tMeth, L2.tMake, L2.rGcd, L2.tFld, L2.sFld, L2.sFldAug, Mx.sFldA, Mx.sFldAugA, L2.rAdd, L2.rSub, L2.rEq, L2.rNe, L2.tDGet, L2.tDIn, L2.tDNotIn, L2.sDPut,
  Mx.isi_int_bool, Mx.isi_int_int, Mx.isi_int_tuple, Mx.isi_int_list, Mx.isi_int_str, Mx.scal_int, Mx.scal_str, Mx.scal_bl, Mx.ofString_inj, Mx.ofString_beq, Mx.lk_cons, Mx.pf_nil, Mx.pf_cons, Mx.sz1, Mx.sz2, List.lookup_nil, String.reduceEq, decide_true, decide_false, decide_eq_true_eq, Int.natAbs_natCast, L2.upd_same, L2.upd_upd, L2.cxOf])
set_option hygiene false in
local macro_rules | `(tactic| walk_at "rds") => `(tactic| try simp only [L2.start, List.map_cons, List.map_nil, List.length_cons, List.length_nil, Nat.reduceAdd, Nat.reduceSub, Nat.reduceLT, Nat.reduceLeDiff, List.replicate_succ, List.replicate_zero, List.append_nil, List.nil_append, List.cons_append, List.set_cons_zero, List.set_cons_succ, List.getElem?_cons_zero, List.getElem?_cons_succ,
  Option.some.injEq, List.cons.injEq, and_true, true_and, and_assoc, reduceCtorEq, L2.V.int.injEq, L2.V.ref.injEq, L2.V.bl.injEq, L2.V.str.injEq, L2.V.ty.injEq, L2.HO.ins.injEq, L2.HO.lst.injEq, L2.HO.tup.injEq, L2.HO.dK.injEq, exists_eq_left', exists_eq_left, exists_eq_right, exists_eq', exists_eq, exists_and_left, exists_and_right, reduceIte, Bool.false_eq_true, Bool.not_true, Bool.not_false,
  L2.tSeq, L2.tIfS, L2.tRet, L2.tRetN, L2.tNext, L2.tAsg, L2.gName, L2.tVar, L2.tC, L2.tCons, L2.tNil, L2.tCB, L2.tOp, L2.tUn, L2.tTup, L2.tLst, L2.tB, L2.tOr, L2.tAnd, L2.tNot, L2.tAndV, L2.tOrV, L2.tNotV, L2.tIf, L2.tTest, L2.tChain, L2.rI, L2.rI0, L2.rU, L2.tDrop, L2.tNever, L2.tCall, L2.tMeth, L2.tMake, L2.rGcd, L2.tFld, L2.sFld, L2.sFldAug, Mx.sFldA, Mx.sFldAugA, L2.rAdd, L2.rSub, L2.rEq, L2.rNe, L2.tDGet, L2.tDIn, L2.tDNotIn, L2.sDPut,
  Mx.isi_int_bool, Mx.isi_int_int, Mx.isi_int_tuple, Mx.isi_int_list, Mx.isi_int_str, Mx.scal_int, Mx.scal_str, Mx.scal_bl, Mx.ofString_inj, Mx.ofString_beq, Mx.lk_cons, Mx.pf_nil, Mx.pf_cons, Mx.sz1, Mx.sz2, List.lookup_nil, String.reduceEq, decide_true, decide_false, decide_eq_true_eq, Int.natAbs_natCast, L2.upd_same, L2.upd_upd, L2.cxOf, *])

section
variable {P : Program} {w : World} {K : PySem.W.Frag} {mg : Str → Option Value} {base : Heap}
/-! what lets whole numbers within bounds by -/
def sp_in (lo hi : Int) : Sp := fun vs H Q _ => ∃ n : Int, vs = [.int n] ∧ lo ≤ n ∧ n ≤ hi ∧ Q .non H
theorem sc_check_soft : FnScope ["soft"] ["soft"] (defScope s_check_soft) := ⟨rfl, rfl, rfl, by decide +kernel, rfl, by decide +kernel, by decide +kernel⟩
theorem ok_check_soft {f : Addr} {fd : FuncData} (F : Fun K "check_soft" "check_soft" s_check_soft f fd) (G : OwnF P w K mg base "is_whole" 1 ["number", "low", "high"] sp_is_whole) : FnOk P w K mg base CX0 2 f fd ["soft"] (sp_in 1 16) := by
  refine F.ok sc_check_soft (fun vs H Q E h => ?_) (fun cdv A outer s H vs Q E hr h => ?_)
  · obtain ⟨n, rfl, _⟩ := h
    rfl
  · obtain ⟨n, rfl, h1, h2, k⟩ := h
    refine ⟨_, pss_one (ps_if (pt_not (pt_val (p_call G hr (pa_cons (pv 0) (pa_cons pe_int (pa_cons pe_int pa_nil)))))) (pss_one ps_never) pss_nil), ?_⟩
    refine ⟨_, rfl, n, 1, 16, rfl, _, rfl, ?_⟩
    rw [decide_eq_true (show 1 ≤ n ∧ n ≤ 16 from ⟨h1, h2⟩)]
    exact iteF k
theorem sc_check_name : FnScope ["name"] ["name"] (defScope s_check_name) := ⟨rfl, rfl, rfl, by decide +kernel, rfl, by decide +kernel, by decide +kernel⟩
theorem ok_check_name {f : Addr} {fd : FuncData} (F : Fun K "check_name" "check_name" s_check_name f fd) (G : OwnF P w K mg base "is_whole" 1 ["number", "low", "high"] sp_is_whole) : FnOk P w K mg base CX0 2 f fd ["name"] (sp_in 0 5) := by
  refine F.ok sc_check_name (fun vs H Q E h => ?_) (fun cdv A outer s H vs Q E hr h => ?_)
  · obtain ⟨n, rfl, _⟩ := h
    rfl
  · obtain ⟨n, rfl, h1, h2, k⟩ := h
    refine ⟨_, pss_one (ps_if (pt_not (pt_val (p_call G hr (pa_cons (pv 0) (pa_cons pe_int (pa_cons pe_int pa_nil)))))) (pss_one ps_never) pss_nil), ?_⟩
    refine ⟨_, rfl, n, 0, 5, rfl, _, rfl, ?_⟩
    rw [decide_eq_true (show 0 ≤ n ∧ n ≤ 5 from ⟨h1, h2⟩)]
    exact iteF k
theorem sc_check_wait : FnScope ["wait"] ["wait"] (defScope s_check_wait) := ⟨rfl, rfl, rfl, by decide +kernel, rfl, by decide +kernel, by decide +kernel⟩
theorem ok_check_wait {f : Addr} {fd : FuncData} (F : Fun K "check_wait" "check_wait" s_check_wait f fd) (G : OwnF P w K mg base "is_whole" 1 ["number", "low", "high"] sp_is_whole) : FnOk P w K mg base CX0 2 f fd ["wait"] (sp_in 0 64) := by
  refine F.ok sc_check_wait (fun vs H Q E h => ?_) (fun cdv A outer s H vs Q E hr h => ?_)
  · obtain ⟨n, rfl, _⟩ := h
    rfl
  · obtain ⟨n, rfl, h1, h2, k⟩ := h
    refine ⟨_, pss_one (ps_if (pt_not (pt_val (p_call G hr (pa_cons (pv 0) (pa_cons pe_int (pa_cons pe_int pa_nil)))))) (pss_one ps_never) pss_nil), ?_⟩
    refine ⟨_, rfl, n, 0, 64, rfl, _, rfl, ?_⟩
    rw [decide_eq_true (show 0 ≤ n ∧ n ≤ 64 from ⟨h1, h2⟩)]
    exact iteF k
theorem sc_check_loudness : FnScope ["loudness"] ["loudness"] (defScope s_check_loudness) := ⟨rfl, rfl, rfl, by decide +kernel, rfl, by decide +kernel, by decide +kernel⟩
theorem ok_check_loudness {f : Addr} {fd : FuncData} (F : Fun K "check_loudness" "check_loudness" s_check_loudness f fd) (G : OwnF P w K mg base "is_whole" 1 ["number", "low", "high"] sp_is_whole) : FnOk P w K mg base CX0 2 f fd ["loudness"] (sp_in 0 64) := by
  refine F.ok sc_check_loudness (fun vs H Q E h => ?_) (fun cdv A outer s H vs Q E hr h => ?_)
  · obtain ⟨n, rfl, _⟩ := h
    rfl
  · obtain ⟨n, rfl, h1, h2, k⟩ := h
    refine ⟨_, pss_one (ps_if (pt_not (pt_val (p_call G hr (pa_cons (pv 0) (pa_cons pe_int (pa_cons pe_int pa_nil)))))) (pss_one ps_never) pss_nil), ?_⟩
    refine ⟨_, rfl, n, 0, 64, rfl, _, rfl, ?_⟩
    rw [decide_eq_true (show 0 ≤ n ∧ n ≤ 64 from ⟨h1, h2⟩)]
    exact iteF k
def sp_check_pace : Sp := fun vs H Q _ => ∃ (t : Addr) (pn pb : Int), vs = [.ref t] ∧ H t = some (.tup [.int pn, .int pb]) ∧ (1 ≤ pn ∧ pn ≤ 8) ∧ (1 ≤ pb ∧ pb ≤ 8) ∧ ∀ H', Stp [] H H' → Q .non H'
theorem sc_check_pace : FnScope ["pace", "number"] ["pace"] (defScope s_check_pace) := ⟨rfl, rfl, rfl, by decide +kernel, rfl, by decide +kernel, by decide +kernel⟩
theorem ok_check_pace {f : Addr} {fd : FuncData} (F : Fun K "check_pace" "check_pace" s_check_pace f fd) (B : Blt mg) (G : OwnF P w K mg base "is_whole" 1 ["number", "low", "high"] sp_is_whole) : FnOk P w K mg base CX0 2 f fd ["pace"] sp_check_pace := by
  refine F.ok sc_check_pace (fun vs H Q E h => ?_) (fun cdv A outer s H vs Q E hr h => ?_)
  · obtain ⟨t, pn, pb, rfl, _⟩ := h
    rfl
  · obtain ⟨t, pn, pb, rfl, ht, h1, h2, k⟩ := h
    refine ⟨_, pss_cons (ps_if (PW.pt (pw_or (pt_not (pt_val (b_isi B (pv 0) B.tuple PyProof.Rows.boot_tuple))) (pw_or1 (pt_cmpR op_ne (pe_callB call_len_seq (by rfl) B.len PySem.boot_len (pa_cons (pv 0) pa_nil)) pe_int (nomark _))))) (pss_one ps_never) pss_nil)
      (pss_one (ps_if (pt_not (pt_val (pe_callB (cr_all rfl) (by rfl) B.all PyProof.Rows.boot_all (pa_cons (pe_lc (own := [("number", 1)]) (te := tCall sp_is_whole [] E0 (tCons (tVar 1) (tCons (tC (.int 1)) (tCons (tC (.int 8)) tNil)))) rfl sc_check_pace.nd (pi_tup (pv 0)) (blkOk_by (N := ["pace", "number"]) (sc := defScope s_check_pace) (by decide +kernel))
        (fun _ _ _ _ _ => pg_name (i := 1) sc_check_pace.nd rfl (.inl rfl)) (fun _ _ _ _ _ => pts_nil) (fun _ _ _ _ _ => p_call G hr (pa_cons (pv 1) (pa_cons pe_int (pa_cons pe_int pa_nil))))) pa_nil)))) (pss_one ps_never) pss_nil)), ?_⟩
    walk_at "rd"
    refine isi_tup ht ?_
    walk_at "rd"
    refine ⟨_, .inr (.inl (.inl ht)), ?_⟩
    walk_at "rd"
    refine ⟨_, rfl, t, rfl, ⟨_, .inl (.inl ht)⟩, lc_pureT (K := K) (a := t) (H9 := H) (i := 1) (te := tCall sp_is_whole [] E0 (tCons (tVar 1) (tCons (tC (.int 1)) (tCons (tC (.int 8)) tNil)))) (σ := [some (.ref t), none]) (Q := fun x H1 => rAll K [x] H1 _) (fun _ => .bl true) ht (by show 2 ≤ 100000; decide) (fun x hx H1 Q' hs q => ?_) (fun D H1 hD hs1 hl1 => ?_)⟩
    · refine ⟨_, rfl, ?_⟩
      rcases List.mem_cons.mp hx with e | hx
      · subst e
        refine ⟨pn, 1, 8, rfl, ?_⟩
        rw [decide_eq_true h1]
        exact q
      · rw [List.mem_singleton.mp hx]
        refine ⟨pb, 1, 8, rfl, ?_⟩
        rw [decide_eq_true h2]
        exact q
    · refine ⟨D, [true, true], rfl, .inl (.inl hl1), _, rfl, iteF ?_⟩
      exact k H1 hs1

end
end Mx

namespace Mx
open PySem L2
theorem vdict_get {vs : List MV} (h : (vs.map (·.1)).Nodup) {e : MV} (he : e ∈ vs) : valV (vdict vs) (Sum.inl e.1 : Key) = some (.ref e.2.1.a) := by
  unfold valV vdict
  induction vs with
  | nil => cases he
  | cons x r ih =>
    rw [List.map_cons, List.nodup_cons] at h
    rcases List.mem_cons.mp he with a | a
    · subst a
      simp
    · have : x.1 ≠ e.1 := fun z => h.1 (List.mem_map.mpr ⟨e, a, z.symm⟩)
      rw [List.map_cons, List.find?_cons_of_neg (by simpa using this)]
      exact ih h.2 a
theorem vdict_no {vs : List MV} {n : Int} (h : n ∉ vs.map (·.1)) : valV (vdict vs) (Sum.inl n : Key) = none := by
  unfold valV vdict
  induction vs with
  | nil => rfl
  | cons x r ih =>
    rw [List.map_cons, List.mem_cons, not_or] at h
    rw [List.map_cons, List.find?_cons_of_neg (by simpa using Ne.symm h.1)]
    exact ih h.2
theorem vdict_put {vs : List MV} {n : Int} {A : VA} {v : VoiceS} (h : n ∉ vs.map (·.1)) : putK (vdict vs) (Sum.inl n : Key) (V.ref A.a) = vdict (vs ++ [(n, A, v)]) := by
  rw [putK_new _ (vdict_no h)]
  simp [vdict]
structure TM (K : PySem.W.Frag) (C : Addr) : Prop where
  cl : Cls K C
  a1 : NoAttr K C "soft"
  a2 : NoAttr K C "coming"
  a3 : NoAttr K C "voices"
  a4 : NoAttr K C "lacked"
set_option hygiene false in
local macro_rules | `(tactic| walk_at "rd") => `(tactic| try simp only [L2.start, List.map_cons, List.map_nil, List.length_cons, List.length_nil, Nat.reduceAdd, Nat.reduceSub, Nat.reduceLT, Nat.reduceLeDiff, List.replicate_succ, List.replicate_zero, List.append_nil, List.nil_append, List.cons_append, List.set_cons_zero, List.set_cons_succ, List.getElem?_cons_zero, List.getElem?_cons_succ,
  Option.some.injEq, List.cons.injEq, and_true, true_and, and_assoc, reduceCtorEq, L2.V.int.injEq, L2.V.ref.injEq, L2.V.bl.injEq, L2.V.str.injEq, L2.V.ty.injEq, L2.HO.ins.injEq, L2.HO.lst.injEq, L2.HO.tup.injEq, L2.HO.dK.injEq, exists_eq_left', exists_eq_left, exists_eq_right, exists_eq', exists_eq, exists_and_left, exists_and_right, reduceIte, Bool.false_eq_true, Bool.not_true, Bool.not_false,
  L2.tSeq, L2.tIfS, L2.tRet, L2.tRetN, L2.tNext, L2.tAsg, L2.gName, L2.tVar, L2.tC, L2.tCons, L2.tNil, L2.tCB, L2.tOp, L2.tUn, L2.tTup, L2.tLst, L2.tB, L2.tOr, L2.tAnd, L2.tNot, L2.tAndV, L2.tOrV, L2.tNotV, L2.tIf, L2.tTest, L2.tChain, L2.rI, L2.rI0, L2.rU, L2.tDrop, L2.tNever, L2.tCall, L2.tMeth, L2.tMake, L2.rGcd, L2.tFld, L2.sFld, L2.sFldAug, Mx.sFldA, Mx.sFldAugA, L2.rAdd, L2.rSub, L2.rEq, L2.rNe, L2.tDGet, L2.tDIn, L2.tDNotIn, L2.sDPut,
  Mx.isi_int_bool, Mx.isi_int_int, Mx.isi_int_tuple, Mx.isi_int_list, Mx.isi_int_str, Mx.scal_int, Mx.scal_str, Mx.scal_bl, Mx.ofString_inj, Mx.ofString_beq, Mx.lk_cons, Mx.pf_nil, Mx.pf_cons, Mx.sz1, Mx.sz2, List.lookup_nil, String.reduceEq, decide_true, decide_false, decide_eq_true_eq, Int.natAbs_natCast, L2.upd_same, L2.upd_upd, L2.cxOf, Mx.fsM, Mx.fsV, Mx.fsL])
set_option hygiene false in
local macro_rules | `(tactic| walk_at "rds") => `(tactic| try simp only [L2.start, List.map_cons, List.map_nil, List.length_cons, List.length_nil, Nat.reduceAdd, Nat.reduceSub, Nat.reduceLT, Nat.reduceLeDiff, List.replicate_succ, List.replicate_zero, List.append_nil, List.nil_append, List.cons_append, List.set_cons_zero, List.set_cons_succ, List.getElem?_cons_zero, List.getElem?_cons_succ,
  Option.some.injEq, List.cons.injEq, and_true, true_and, and_assoc, reduceCtorEq, L2.V.int.injEq, L2.V.ref.injEq, L2.V.bl.injEq, L2.V.str.injEq, L2.V.ty.injEq, L2.HO.ins.injEq, L2.HO.lst.injEq, L2.HO.tup.injEq, L2.HO.dK.injEq, exists_eq_left', exists_eq_left, exists_eq_right, exists_eq', exists_eq, exists_and_left, exists_and_right, reduceIte, Bool.false_eq_true, Bool.not_true, Bool.not_false,
  L2.tSeq, L2.tIfS, L2.tRet, L2.tRetN, L2.tNext, L2.tAsg, L2.gName, L2.tVar, L2.tC, L2.tCons, L2.tNil, L2.tCB, L2.tOp, L2.tUn, L2.tTup, L2.tLst, L2.tB, L2.tOr, L2.tAnd, L2.tNot, L2.tAndV, L2.tOrV, L2.tNotV, L2.tIf, L2.tTest, L2.tChain, L2.rI, L2.rI0, L2.rU, L2.tDrop, L2.tNever, L2.tCall, L2.tMeth, L2.tMake, L2.rGcd, L2.tFld, L2.sFld, L2.sFldAug, Mx.sFldA, Mx.sFldAugA, L2.rAdd, L2.rSub, L2.rEq, L2.rNe, L2.tDGet, L2.tDIn, L2.tDNotIn, L2.sDPut,
  Mx.isi_int_bool, Mx.isi_int_int, Mx.isi_int_tuple, Mx.isi_int_list, Mx.isi_int_str, Mx.scal_int, Mx.scal_str, Mx.scal_bl, Mx.ofString_inj, Mx.ofString_beq, Mx.lk_cons, Mx.pf_nil, Mx.pf_cons, Mx.sz1, Mx.sz2, List.lookup_nil, String.reduceEq, decide_true, decide_false, decide_eq_true_eq, Int.natAbs_natCast, L2.upd_same, L2.upd_upd, L2.cxOf, Mx.fsM, Mx.fsV, Mx.fsL, *])

section
variable {P : Program} {w : World} {K : PySem.W.Frag} {mg : Str → Option Value} {base : Heap} {cs : Cs}
/-! a mixer is made -/
def sp_Mixer_init (K : PySem.W.Frag) (cs : Cs) : Sp := fun vs H Q _ => ∃ (m dx : Addr) (soft : Int), vs = [.ref m, .int soft] ∧ H m = some (.ins cs.M dx []) ∧ 1 ≤ soft ∧ soft ≤ 16 ∧
  ∀ d k H', H d = none → H k = none → MixAt K cs H' m d k ⟨soft, 0, [], []⟩ → Stp [m] H H' → Q .non H'
theorem sc_Mixer_init : FnScope ["self", "soft"] ["self", "soft"] (defScope s_Mixer_init) := ⟨rfl, rfl, rfl, by decide +kernel, rfl, by decide +kernel, by decide +kernel⟩
theorem ok_Mixer_init {f : Addr} {fd : FuncData} (F : Fun K "__init__" "Mixer.__init__" s_Mixer_init f fd) (T : TM K cs.M) (G : OwnF P w K mg base "check_soft" 2 ["soft"] (sp_in 1 16)) : FnOk P w K mg base CX0 3 f fd ["self", "soft"] (sp_Mixer_init K cs) := by
  refine F.ok sc_Mixer_init (fun vs H Q E h => ?_) (fun cdv A outer s H vs Q E hr h => ?_)
  · obtain ⟨m, dx, soft, rfl, _⟩ := h
    rfl
  · obtain ⟨m, dx, soft, rfl, hm, hs1, hs2, k⟩ := h
    obtain ⟨cl, a1, a2, a3, a4⟩ := T
    refine ⟨_, pss_cons (ps_expr (p_call G hr (pa_cons (pv 1) pa_nil))) (pss_cons (ps_fldA (pv 0) (pv 1) rfl) (pss_cons (ps_fldA (pv 0) pe_int rfl) (pss_cons (ps_fldA (pv 0) pe_dnewK rfl) (pss_one (ps_fldA (pv 0) (pe_lst pa_nil) rfl))))), ?_⟩
    refine ⟨_, rfl, soft, rfl, hs1, hs2, ?_⟩
    walk_at "rds"
    intro H1 g1 s1
    walk_at "rds"
    intro H2 g2 s2
    walk_at "rds"
    intro d hd
    have s3 := Stp.new (o := .dK []) hd
    have e3 : upd H2 d (.dK []) d = some (.dK []) := upd_same
    have g3 := s3.keep _ _ g2 (by simp)
    generalize upd H2 d (.dK []) = H3 at *
    have hdm : m ≠ d := ne_of_none g2 hd
    walk_at "rds"
    intro H4 g4 s4
    walk_at "rds"
    refine ⟨by decide, fun l hl => ?_⟩
    have s5 := Stp.new (o := .lst []) hl
    have e5 : upd H4 l (.lst []) l = some (.lst []) := upd_same
    have g5 := s5.keep _ _ g4 (by simp)
    have hlm : m ≠ l := ne_of_none g4 hl
    have e4 := s4.keep _ _ e3 (by simpa using hdm.symm)
    have hdl : d ≠ l := ne_of_none e4 hl
    generalize upd H4 l (.lst []) = H5 at *
    walk_at "rds"
    intro H6 g6 s6
    have hd0 : H d = none := s1.free (s2.free hd (by simpa using hdm.symm)) (by simpa using hdm.symm)
    have hl0 : H l = none := s1.free (s2.free (s3.free (s4.free hl (by simpa using hlm.symm)) (by simp)) (by simpa using hlm.symm)) (by simpa using hlm.symm)
    refine k d l H6 hd0 hl0 ⟨⟨dx, g6⟩, ?_, ⟨[], ?_, .nil⟩, (by simp), (by simp), (by simp), List.nodup_nil⟩ ?_
    · exact s6.keep _ _ (s5.keep _ _ e4 (by simp)) (by simpa using hdm.symm)
    · exact s6.keep _ _ e5 (by simpa using hlm.symm)
    · exact (s1.trans (s2.trans (s3.trans (s4.trans (s5.trans s6))))).sub (by simp)

/-! its voice of a name -/
def sp_Mixer_voice_of (K : PySem.W.Frag) (cs : Cs) : Sp := fun vs H Q _ => ∃ (m d k : Addr) (s : MixS) (e : MV), vs = [.ref m, .int e.1] ∧ MixAt K cs H m d k s ∧ e ∈ s.vs ∧ 0 ≤ e.1 ∧ e.1 ≤ 5 ∧ Q (.ref e.2.1.a) H
theorem sc_Mixer_voice_of : FnScope ["self", "name"] ["self", "name"] (defScope s_Mixer_voice_of) := ⟨rfl, rfl, rfl, by decide +kernel, rfl, by decide +kernel, by decide +kernel⟩
theorem ok_Mixer_voice_of {f : Addr} {fd : FuncData} (F : Fun K "voice_of" "Mixer.voice_of" s_Mixer_voice_of f fd) (T : TM K cs.M) (G : OwnF P w K mg base "check_name" 2 ["name"] (sp_in 0 5)) : FnOk P w K mg base CX0 3 f fd ["self", "name"] (sp_Mixer_voice_of K cs) := by
  refine F.ok sc_Mixer_voice_of (fun vs H Q E h => ?_) (fun cdv A outer s H vs Q E hr h => ?_)
  · obtain ⟨m, d, k, s, e, rfl, _⟩ := h
    rfl
  · obtain ⟨m, d, k, s, e, rfl, hM, he, h0, h5, q⟩ := h
    obtain ⟨cl, a1, a2, a3, a4⟩ := T
    have hu := hu_of hr
    refine ⟨_, pss_cons (ps_expr (p_call G hr (pa_cons (pv 1) pa_nil))) (pss_cons (ps_if (pt_cmp (pc_dnotin hu (pv 1) (pe_fld (pv 0) rfl))) (pss_one ps_never) pss_nil) (pss_one (ps_ret (pe_dget hu (pe_fld (pv 0) rfl) (pv 1) (fun _ _ => rfl))))), ?_⟩
    obtain ⟨dx, h1⟩ := hM.ob
    have g1 := DGet.k (k := (Sum.inl e.1 : Key)) hM.dv
    rw [vdict_get hM.nm he] at g1
    refine ⟨_, rfl, e.1, rfl, h0, h5, ?_⟩
    walk_at "rds"
    refine ⟨_, g1, ?_⟩
    rw [if_neg (by simp)]
    exact ⟨_, g1, q⟩
end
end Mx

namespace Mx
open PySem L2
set_option hygiene false in
local macro_rules | `(tactic| walk_at "rd") => `(tactic| try simp only [L2.start, List.map_cons, List.map_nil, List.length_cons, List.length_nil, Nat.reduceAdd, Nat.reduceSub, Nat.reduceLT, Nat.reduceLeDiff, List.replicate_succ, List.replicate_zero, List.append_nil, List.nil_append, List.cons_append, List.set_cons_zero, List.set_cons_succ, List.getElem?_cons_zero, List.getElem?_cons_succ,
  Option.some.injEq, List.cons.injEq, and_true, true_and, and_assoc, reduceCtorEq, L2.V.int.injEq, L2.V.ref.injEq, L2.V.bl.injEq, L2.V.str.injEq, L2.V.ty.injEq, L2.HO.ins.injEq, L2.HO.lst.injEq, L2.HO.tup.injEq, L2.HO.dK.injEq, exists_eq_left', exists_eq_left, exists_eq_right, exists_eq', exists_eq, exists_and_left, exists_and_right, reduceIte, Bool.false_eq_true, Bool.not_true, Bool.not_false,
  L2.tSeq, L2.tIfS, L2.tRet, L2.tRetN, L2.tNext, L2.tAsg, L2.gName, L2.tVar, L2.tC, L2.tCons, L2.tNil, L2.tCB, L2.tOp, L2.tUn, L2.tTup, L2.tLst, L2.tB, L2.tOr, L2.tAnd, L2.tNot, L2.tAndV, L2.tOrV, L2.tNotV, L2.tIf, L2.tTest, L2.tChain, L2.rI, L2.rI0, L2.rU, L2.tDrop, L2.tNever, L2.tCall, L2.tMeth, L2.tMake, L2.rGcd, L2.tFld, L2.sFld, L2.sFldAug, Mx.sFldA, Mx.sFldAugA, L2.rAdd, L2.rSub, L2.rEq, L2.rNe, L2.tDGet, L2.tDIn, L2.tDNotIn, L2.sDPut,
  Mx.isi_int_bool, Mx.isi_int_int, Mx.isi_int_tuple, Mx.isi_int_list, Mx.isi_int_str, Mx.scal_int, Mx.scal_str, Mx.scal_bl, Mx.ofString_inj, Mx.ofString_beq, Mx.lk_cons, Mx.pf_nil, Mx.pf_cons, Mx.sz1, Mx.sz2, List.lookup_nil, String.reduceEq, decide_true, decide_false, decide_eq_true_eq, Int.natAbs_natCast, L2.upd_same, L2.upd_upd, L2.cxOf, Mx.fsM, Mx.fsV, Mx.fsL, Mx.optV])
set_option hygiene false in
local macro_rules | `(tactic| walk_at "rds") => `(tactic| try simp only [L2.start, List.map_cons, List.map_nil, List.length_cons, List.length_nil, Nat.reduceAdd, Nat.reduceSub, Nat.reduceLT, Nat.reduceLeDiff, List.replicate_succ, List.replicate_zero, List.append_nil, List.nil_append, List.cons_append, List.set_cons_zero, List.set_cons_succ, List.getElem?_cons_zero, List.getElem?_cons_succ,
  Option.some.injEq, List.cons.injEq, and_true, true_and, and_assoc, reduceCtorEq, L2.V.int.injEq, L2.V.ref.injEq, L2.V.bl.injEq, L2.V.str.injEq, L2.V.ty.injEq, L2.HO.ins.injEq, L2.HO.lst.injEq, L2.HO.tup.injEq, L2.HO.dK.injEq, exists_eq_left', exists_eq_left, exists_eq_right, exists_eq', exists_eq, exists_and_left, exists_and_right, reduceIte, Bool.false_eq_true, Bool.not_true, Bool.not_false,
  L2.tSeq, L2.tIfS, L2.tRet, L2.tRetN, L2.tNext, L2.tAsg, L2.gName, L2.tVar, L2.tC, L2.tCons, L2.tNil, L2.tCB, L2.tOp, L2.tUn, L2.tTup, L2.tLst, L2.tB, L2.tOr, L2.tAnd, L2.tNot, L2.tAndV, L2.tOrV, L2.tNotV, L2.tIf, L2.tTest, L2.tChain, L2.rI, L2.rI0, L2.rU, L2.tDrop, L2.tNever, L2.tCall, L2.tMeth, L2.tMake, L2.rGcd, L2.tFld, L2.sFld, L2.sFldAug, Mx.sFldA, Mx.sFldAugA, L2.rAdd, L2.rSub, L2.rEq, L2.rNe, L2.tDGet, L2.tDIn, L2.tDNotIn, L2.sDPut,
  Mx.isi_int_bool, Mx.isi_int_int, Mx.isi_int_tuple, Mx.isi_int_list, Mx.isi_int_str, Mx.scal_int, Mx.scal_str, Mx.scal_bl, Mx.ofString_inj, Mx.ofString_beq, Mx.lk_cons, Mx.pf_nil, Mx.pf_cons, Mx.sz1, Mx.sz2, List.lookup_nil, String.reduceEq, decide_true, decide_false, decide_eq_true_eq, Int.natAbs_natCast, L2.upd_same, L2.upd_upd, L2.cxOf, Mx.fsM, Mx.fsV, Mx.fsL, Mx.optV, *])

section
variable {P : Program} {w : World} {K : PySem.W.Frag} {mg : Str → Option Value} {base : Heap} {cs : Cs}
/-! a voice that has just been added -/
def VoiceS.new (pn pb b n : Int) : VoiceS := ⟨⟨pn, pb, b, [], 0, none⟩, ⟨mkRat n 64, 0, 0⟩, true, wH, 0, 0, 0⟩
def sp_Mixer_add (K : PySem.W.Frag) (cs : Cs) : Sp := fun vs H Q _ => ∃ (m d k t : Addr) (s : MixS) (n pn pb wt ld : Int), vs = [.ref m, .int n, .ref t, .int wt, .int ld] ∧ MixAt K cs H m d k s ∧ n ∉ s.vs.map (·.1) ∧ 0 ≤ n ∧ n ≤ 5 ∧ H t = some (.tup [.int pn, .int pb]) ∧
  (1 ≤ pn ∧ pn ≤ 8) ∧ (1 ≤ pb ∧ pb ≤ 8) ∧ (0 ≤ wt ∧ wt ≤ 64) ∧ (0 ≤ ld ∧ ld ≤ 64) ∧ s.vs.length ≤ 100 ∧
  ∀ (A : VA) H', (∀ b ∈ A.foot, H b = none) → MixAt K cs H' m d k { s with vs := s.vs ++ [(n, A, VoiceS.new pn pb (s.coming + wt) ld)] } → Stp [d] H H' → Q .non H'
theorem sc_Mixer_add : FnScope ["self", "name", "pace", "wait", "loudness"] ["self", "name", "pace", "wait", "loudness"] (defScope s_Mixer_add) := ⟨rfl, rfl, rfl, by decide +kernel, rfl, by decide +kernel, by decide +kernel⟩
theorem MixAt.grow {H H' : Hp} {m d k : Addr} {s : MixS} (h : MixAt K cs H m d k s) {n : Int} {A : VA} {v : VoiceS} (hn : n ∉ s.vs.map (·.1)) (hA : ∀ b ∈ A.foot, H b = none) (g : Stp [d] H H') (hv : VoiceAt K cs H' A v) (hd : H' d = Option.some (.dK (vdict (s.vs ++ [(n, A, v)])))) :
    MixAt K cs H' m d k { s with vs := s.vs ++ [(n, A, v)] } := by
  have hne := h.ne
  have hsome := h.some
  obtain ⟨⟨dx, h1⟩, h2, ⟨ls, h3, h4⟩, h5, h6, h7, h8⟩ := h
  have no : ∀ b, H b ≠ none → b ∉ A.foot := fun b hb z => hb (hA b z)
  have infoot : ∀ e ∈ s.vs, ∀ b ∈ e.2.1.foot, H b ≠ none := fun e he b hb => (h5 e he).some b hb
  refine ⟨⟨dx, g.keep _ _ h1 (by simpa using hne.1)⟩, hd, ⟨ls, g.keep _ _ h3 (by simpa using hne.2.2.symm), pairs_st g h4⟩, fun e he => ?_, fun e he => ?_, fun e he f hf hnf b hb => ?_, ?_⟩
  · rcases List.mem_append.mp he with he | he
    · refine (h5 e he).st g fun b hb z => ?_
      have := List.mem_singleton.mp z
      subst this
      exact (h6 e he).2.1 hb
    · rw [List.mem_singleton.mp he]
      exact hv
  · rcases List.mem_append.mp he with he | he
    · exact h6 e he
    · rw [List.mem_singleton.mp he]
      exact ⟨no _ (by rw [h1]; exact fun z => nomatch z), no _ (by rw [h2]; exact fun z => nomatch z), no _ (by rw [h3]; exact fun z => nomatch z)⟩
  · rcases List.mem_append.mp he with he | he <;> rcases List.mem_append.mp hf with hf | hf
    · exact h7 e he f hf hnf b hb
    · rw [List.mem_singleton.mp hf]
      exact no b (infoot e he b hb)
    · rw [List.mem_singleton.mp he] at hb
      exact fun z => infoot f hf b z (hA b hb)
    · rw [List.mem_singleton.mp he, List.mem_singleton.mp hf] at hnf
      exact absurd rfl hnf
  · show ((s.vs ++ [(n, A, v)]).map (·.1)).Nodup
    rw [List.map_append, List.nodup_append]
    refine ⟨h8, by simp, fun a ha b hb => ?_⟩
    have hb' : b = n := by simpa using hb
    subst hb'
    rintro rfl
    exact hn ha
theorem ok_Mixer_add {f : Addr} {fd : FuncData} (F : Fun K "add" "Mixer.add" s_Mixer_add f fd) (T : TM K cs.M) (G1 : OwnF P w K mg base "check_name" 2 ["name"] (sp_in 0 5)) (G2 : OwnF P w K mg base "check_pace" 2 ["pace"] sp_check_pace) (G3 : OwnF P w K mg base "check_wait" 2 ["wait"] (sp_in 0 64))
    (G4 : OwnF P w K mg base "check_loudness" 2 ["loudness"] (sp_in 0 64)) (GV : OwnC P w K mg base cs.V "Voice" 4 ["self", "pace", "begin", "loudness"] (sp_Voice_init K cs)) : FnOk P w K mg base CX0 6 f fd ["self", "name", "pace", "wait", "loudness"] (sp_Mixer_add K cs) := by
  refine F.ok sc_Mixer_add (fun vs H Q E h => ?_) (fun cdv A outer s H vs Q E hr h => ?_)
  · obtain ⟨m, d, k, t, s, n, pn, pb, wt, ld, rfl, _⟩ := h
    rfl
  · obtain ⟨m, d, k, t, s, n, pn, pb, wt, ld, rfl, hM, hn, hn0, hn5, ht, hpn, hpb, hw, hl, hlen, q⟩ := h
    obtain ⟨cl, a1, a2, a3, a4⟩ := T
    have hu := hu_of hr
    have hr2 := hr.mono (show 2 ≤ 5 by decide)
    refine ⟨_, pss_cons (ps_expr (p_call G1 hr2 (pa_cons (pv 1) pa_nil))) (pss_cons (ps_if (pt_cmp (pc_din hu (pv 1) (pe_fld (pv 0) rfl))) (pss_one ps_never) pss_nil)
      (pss_cons (ps_expr (p_call G2 hr2 (pa_cons (pv 2) pa_nil))) (pss_cons (ps_expr (p_call G3 hr2 (pa_cons (pv 3) pa_nil))) (pss_cons (ps_expr (p_call G4 hr2 (pa_cons (pv 4) pa_nil)))
      (pss_one (ps_dput hu (pe_fld (pv 0) rfl) (pv 1) (p_make GV hr (pa_cons (pv 2) (pa_cons (pe_op op_add (pe_fld (pv 0) rfl) (pv 3)) (pa_cons (pv 4) pa_nil)))) rfl)))))), ?_⟩
    have hne := hM.ne
    obtain ⟨dx, h1⟩ := id hM.ob
    have g1 := DGet.k (k := (Sum.inl n : Key)) hM.dv
    rw [vdict_no hn] at g1
    refine ⟨_, rfl, n, rfl, hn0, hn5, ?_⟩
    walk_at "rds"
    refine ⟨_, g1, ?_⟩
    rw [if_neg (by simp)]
    refine ⟨t, pn, pb, rfl, ht, hpn, hpb, fun H1 s1 => ?_⟩
    refine ⟨wt, rfl, hw.1, hw.2, ld, rfl, hl.1, hl.2, ?_⟩
    have h1' := s1.keep _ _ h1 (by simp)
    walk_at "rds"
    intro x dv hx hdv hxd
    have s2 := stp_made (C := cs.V) hx hdv
    have e2 : upd (upd H1 dv (.own x)) x (.ins cs.V dv []) x = some (.ins cs.V dv []) := upd_same
    generalize upd (upd H1 dv (.own x)) x (.ins cs.V dv []) = H2 at *
    refine ⟨x, dv, t, pn, pb, s.coming + wt, ld, rfl, e2, s2.tup _ _ (s1.tup _ _ ht), fun A H3 hAx hA hv s3 => ⟨rfl, ?_⟩⟩
    have t2 := s1.trans s2
    have t3 : Stp [] H H3 := (t2.trans s3).subN fun b hb => .inr (by
      have : b = x := by simpa using hb
      rw [this]
      exact s1.free hx (by simp))
    have hA0 : ∀ b ∈ A.foot, H b = none := fun b hb => by
      rcases hA b hb with e | e
      · rw [e]
        exact s1.free hx (by simp)
      · exact t2.free e (by simp)
    have hM3 := hM.st0 t3
    have h3' := t3.keep _ _ h1 (by simp)
    have hd3 := hM3.dv
    walk_at "rds"
    refine ⟨_, DPut.k (k := (Sum.inl n : Key)) hd3 ?_, ?_⟩
    · show (vdict s.vs).length < sizeLine
      rw [show (vdict s.vs).length = s.vs.length from by simp [vdict]]
      exact Nat.lt_of_le_of_lt hlen (by decide)
    have s4 := Stp.put (o := .dK (putK (vdict s.vs) (Sum.inl n : Key) (V.ref x))) hd3 (fun xs z => nomatch z)
    have hdA : d ∉ A.foot := fun z => by
      have := hA0 d z
      rw [hM.dv] at this
      cases this
    have hx' : x = A.a := hAx.symm
    refine q A _ hA0 (MixAt.grow hM hn hA0 ((t3.trans s4).sub (by simp)) (hv.st s4 fun b hb z => hdA (List.mem_singleton.mp z ▸ hb)) ?_) ((t3.trans s4).sub (by simp))
    rw [upd_same, hx', vdict_put hn]

def sp_Mixer_parcel (K : PySem.W.Frag) (cs : Cs) : Sp := fun vs H Q _ => ∃ (m d k a : Addr) (s : MixS) (e : MV) (i : Int) (ns : List Int), vs = [.ref m, .int e.1, .int i, .ref a] ∧ MixAt K cs H m d k s ∧ e ∈ s.vs ∧ 0 ≤ e.1 ∧ e.1 ≤ 5 ∧ SqL K H a (ns.map V.int) ∧ a ∉ e.2.1.foot ∧ ParOk e.2.2.line i ns ∧ e.2.2.line.came.length ≤ 90000 ∧
  ∀ H', MixAt K cs H' m d k { s with vs := setV s.vs e.1 { e.2.2 with line := e.2.2.line.take i ns } } → Stp e.2.1.foot H H' → Q .non H'
theorem sc_Mixer_parcel : FnScope ["self", "name", "place", "numbers"] ["self", "name", "place", "numbers"] (defScope s_Mixer_parcel) := ⟨rfl, rfl, rfl, by decide +kernel, rfl, by decide +kernel, by decide +kernel⟩
theorem nd4 {A : VA} (h : A.foot.Nodup) : A.a ≠ A.l ∧ A.a ≠ A.c ∧ A.a ≠ A.q ∧ A.l ≠ A.c ∧ A.l ≠ A.q ∧ A.c ≠ A.q := by
  simp only [VA.foot, List.nodup_cons, List.mem_cons, List.not_mem_nil, or_false, not_or, List.nodup_nil, and_true, not_false_eq_true] at h
  exact ⟨h.1.1, h.1.2.1, h.1.2.2, h.2.1.1, h.2.1.2, h.2.2⟩
theorem VoiceAt.lined {H H' : Hp} {A : VA} {v : VoiceS} (h : VoiceAt K cs H A v) {l' : LineS} (s : Stp [A.l, A.c] H H') (hl : LineAt cs.L H' A.l A.c l') : VoiceAt K cs H' A { v with line := l' } := by
  obtain ⟨n1, n2, n3, n4, n5, n6⟩ := nd4 h.nd
  obtain ⟨dx, pv, hv, h1, h2, h3⟩ := h.ob
  exact ⟨⟨dx, pv, hv, s.keep _ _ h1 (by simp [n1, n2]), h2.st s, h3.st s⟩, hl, h.loud.st s (by simp [n5.symm, n6.symm]), h.nd⟩
theorem ok_Mixer_parcel {f : Addr} {fd : FuncData} (F : Fun K "parcel" "Mixer.parcel" s_Mixer_parcel f fd) (TVV : TV K cs.V) (G1 : OwnM P w K mg base cs.M "voice_of" 3 ["self", "name"] (sp_Mixer_voice_of K cs)) (G2 : OwnM P w K mg base cs.L "take" 2 ["self", "place", "numbers"] (sp_Line_take K cs.L)) :
    FnOk P w K mg base CX0 4 f fd ["self", "name", "place", "numbers"] (sp_Mixer_parcel K cs) := by
  refine F.ok sc_Mixer_parcel (fun vs H Q E h => ?_) (fun cdv A outer s H vs Q E hr h => ?_)
  · obtain ⟨m, d, k, a, s, e, i, ns, rfl, _⟩ := h
    rfl
  · obtain ⟨m, d, k, a, s, e, i, ns, rfl, hM, he, h0, h5, ha, haf, hP, hlen, q⟩ := h
    refine ⟨_, pss_one (ps_expr (p_meth G2 (hr.mono (by decide)) (pe_fld (p_meth G1 hr (pv 0) (pa_cons (pv 1) pa_nil)) rfl) (pa_cons (pv 2) (pa_cons (pv 3) pa_nil)))), ?_⟩
    obtain ⟨dx, h1⟩ := id hM.ob
    have hv := hM.vo e he
    obtain ⟨n1, n2, n3, n4, n5, n6⟩ := nd4 hv.nd
    obtain ⟨dy, pv', hv', g1, g2, g3⟩ := hv.ob
    obtain ⟨dl, tpl, gl, _⟩ := hv.line.ob
    obtain ⟨cl, a1, _⟩ := TVV
    walk_at "rds"
    refine ⟨m, d, k, s, e, rfl, hM, he, h0, h5, ?_⟩
    walk_at "rds"
    have hal : a ≠ e.2.1.l := fun z => haf (by simp [VA.foot, z])
    have hac : a ≠ e.2.1.c := fun z => haf (by simp [VA.foot, z])
    refine ⟨e.2.1.l, e.2.1.c, a, e.2.2.line, i, ns, rfl, hv.line, ha, hal, hac, hP, hlen, fun H1 hL s1 => ?_⟩
    exact q H1 (hM.turn he s1 (by simp [VA.foot]) (hv.lined s1 hL)) (s1.sub (by simp [VA.foot]))
def sp_Mixer_missed (K : PySem.W.Frag) (cs : Cs) : Sp := fun vs H Q _ => ∃ (m d k : Addr) (s : MixS), vs = [.ref m] ∧ MixAt K cs H m d k s ∧ ∀ p H' ls, H p = none → Stp [] H H' → H' p = some (.lst ls) → Paired (IsPair H') ls s.lacked → Q (.ref p) H'
theorem sc_Mixer_missed : FnScope ["self"] ["self"] (defScope s_Mixer_missed) := ⟨rfl, rfl, rfl, by decide +kernel, rfl, by decide +kernel, by decide +kernel⟩
theorem ok_Mixer_missed {f : Addr} {fd : FuncData} (F : Fun K "missed" "Mixer.missed" s_Mixer_missed f fd) (T : TM K cs.M) (B : Blt mg) : FnOk P w K mg base CX0 1 f fd ["self"] (sp_Mixer_missed K cs) := by
  refine F.ok sc_Mixer_missed (fun vs H Q E h => ?_) (fun cdv A outer s H vs Q E hr h => ?_)
  · obtain ⟨m, d, k, s, rfl, _⟩ := h
    rfl
  · obtain ⟨m, d, k, s, rfl, hM, q⟩ := h
    obtain ⟨cl, a1, a2, a3, a4⟩ := T
    refine ⟨_, pss_one (ps_ret (pe_callTy call_list_of (by rfl) B.list PyProof.Rows.boot_list (pa_cons (pe_fld (pv 0) rfl) pa_nil))), ?_⟩
    obtain ⟨dx, h1⟩ := id hM.ob
    obtain ⟨ls, hl, hp⟩ := hM.lk
    walk_at "rds"
    refine ⟨ls, .inl (.inl (.inl hl)), fun p hp0 => ?_⟩
    have s1 := Stp.new (o := .lst ls) hp0
    exact q p _ ls hp0 s1 upd_same (pairs_st s1 hp)
end
end Mx

namespace Mx
open PySem L2
set_option hygiene false in
local macro_rules | `(tactic| walk_at "rd") => `(tactic| try simp only [L2.start, List.map_cons, List.map_nil, List.length_cons, List.length_nil, Nat.reduceAdd, Nat.reduceSub, Nat.reduceLT, Nat.reduceLeDiff, List.replicate_succ, List.replicate_zero, List.append_nil, List.nil_append, List.cons_append, List.set_cons_zero, List.set_cons_succ, List.getElem?_cons_zero, List.getElem?_cons_succ,
  Option.some.injEq, List.cons.injEq, and_true, true_and, and_assoc, reduceCtorEq, L2.V.int.injEq, L2.V.ref.injEq, L2.V.bl.injEq, L2.V.str.injEq, L2.V.ty.injEq, L2.HO.ins.injEq, L2.HO.lst.injEq, L2.HO.tup.injEq, L2.HO.dK.injEq, exists_eq_left', exists_eq_left, exists_eq_right, exists_eq', exists_eq, exists_and_left, exists_and_right, reduceIte, Bool.false_eq_true, Bool.not_true, Bool.not_false,
  L2.tSeq, L2.tIfS, L2.tRet, L2.tRetN, L2.tNext, L2.tAsg, L2.gName, L2.tVar, L2.tC, L2.tCons, L2.tNil, L2.tCB, L2.tOp, L2.tUn, L2.tTup, L2.tLst, L2.tB, L2.tOr, L2.tAnd, L2.tNot, L2.tAndV, L2.tOrV, L2.tNotV, L2.tIf, L2.tTest, L2.tChain, L2.rI, L2.rI0, L2.rU, L2.tDrop, L2.tNever, L2.tCall, L2.tMeth, L2.tMake, L2.rGcd, L2.tFld, L2.sFld, L2.sFldAug, Mx.sFldA, Mx.sFldAugA, L2.rAdd, L2.rSub, L2.rEq, L2.rNe, L2.tDGet, L2.tDIn, L2.tDNotIn, L2.sDPut,
  Mx.isi_int_bool, Mx.isi_int_int, Mx.isi_int_tuple, Mx.isi_int_list, Mx.isi_int_str, Mx.scal_int, Mx.scal_str, Mx.scal_bl, Mx.ofString_inj, Mx.ofString_beq, Mx.lk_cons, Mx.pf_nil, Mx.pf_cons, Mx.sz1, Mx.sz2, List.lookup_nil, String.reduceEq, decide_true, decide_false, decide_eq_true_eq, Int.natAbs_natCast, L2.upd_same, L2.upd_upd, L2.cxOf, Mx.fsM, Mx.fsV, Mx.fsL, Mx.optV])
set_option hygiene false in
local macro_rules | `(tactic| walk_at "rds") => `(tactic| try simp only [L2.start, List.map_cons, List.map_nil, List.length_cons, List.length_nil, Nat.reduceAdd, Nat.reduceSub, Nat.reduceLT, Nat.reduceLeDiff, List.replicate_succ, List.replicate_zero, List.append_nil, List.nil_append, List.cons_append, List.set_cons_zero, List.set_cons_succ, List.getElem?_cons_zero, List.getElem?_cons_succ,
  Option.some.injEq, List.cons.injEq, and_true, true_and, and_assoc, reduceCtorEq, L2.V.int.injEq, L2.V.ref.injEq, L2.V.bl.injEq, L2.V.str.injEq, L2.V.ty.injEq, L2.HO.ins.injEq, L2.HO.lst.injEq, L2.HO.tup.injEq, L2.HO.dK.injEq, exists_eq_left', exists_eq_left, exists_eq_right, exists_eq', exists_eq, exists_and_left, exists_and_right, reduceIte, Bool.false_eq_true, Bool.not_true, Bool.not_false,
  L2.tSeq, L2.tIfS, L2.tRet, L2.tRetN, L2.tNext, L2.tAsg, L2.gName, L2.tVar, L2.tC, L2.tCons, L2.tNil, L2.tCB, L2.tOp, L2.tUn, L2.tTup, L2.tLst, L2.tB, L2.tOr, L2.tAnd, L2.tNot, L2.tAndV, L2.tOrV, L2.tNotV, L2.tIf, L2.tTest, L2.tChain, L2.rI, L2.rI0, L2.rU, L2.tDrop, L2.tNever, L2.tCall, L2.tMeth, L2.tMake, L2.rGcd, L2.tFld, L2.sFld, L2.sFldAug, Mx.sFldA, Mx.sFldAugA, L2.rAdd, L2.rSub, L2.rEq, L2.rNe, L2.tDGet, L2.tDIn, L2.tDNotIn, L2.sDPut,
  Mx.isi_int_bool, Mx.isi_int_int, Mx.isi_int_tuple, Mx.isi_int_list, Mx.isi_int_str, Mx.scal_int, Mx.scal_str, Mx.scal_bl, Mx.ofString_inj, Mx.ofString_beq, Mx.lk_cons, Mx.pf_nil, Mx.pf_cons, Mx.sz1, Mx.sz2, List.lookup_nil, String.reduceEq, decide_true, decide_false, decide_eq_true_eq, Int.natAbs_natCast, L2.upd_same, L2.upd_upd, L2.cxOf, Mx.fsM, Mx.fsV, Mx.fsL, Mx.optV, *])

section
variable {P : Program} {w : World} {K : PySem.W.Frag} {mg : Str → Option Value} {base : Heap} {cs : Cs} {C : Addr}
/-! how many numbers there are -/
def sp_Line_close (C : Addr) : Sp := fun vs H Q _ => ∃ (l c : Addr) (s : LineS) (n : Int), vs = [.ref l, .int n] ∧ LineAt C H l c s ∧ s.many = none ∧ 1 ≤ n ∧ n ≤ 1000 ∧ s.reach ≤ n ∧ ∀ H', LineAt C H' l c { s with many := some n } → Stp [l] H H' → Q .non H'
theorem sc_Line_close : FnScope ["self", "many"] ["self", "many"] (defScope s_Line_close) := ⟨rfl, rfl, rfl, by decide +kernel, rfl, by decide +kernel, by decide +kernel⟩
theorem ok_Line_close {f : Addr} {fd : FuncData} (F : Fun K "close" "Line.close" s_Line_close f fd) (T : TL K C) (TT : TC K mg) (G : OwnF P w K mg base "is_whole" 1 ["number", "low", "high"] sp_is_whole) : FnOk P w K mg base CX0 2 f fd ["self", "many"] (sp_Line_close C) := by
  refine F.ok sc_Line_close (fun vs H Q E h => ?_) (fun cdv A outer s H vs Q E hr h => ?_)
  · obtain ⟨l, c, s, n, rfl, _⟩ := h
    rfl
  · obtain ⟨l, c, s, n, rfl, hL, hm, hn1, hn2, hre, k⟩ := h
    obtain ⟨tM, hM⟩ := TT.most
    obtain ⟨cl, a1, a3, a4, a5, a6⟩ := T
    refine ⟨_, pss_cons (ps_if (pt_cmpR op_notN (pe_fld (pv 0) rfl) pe_non (nomark _)) (pss_one ps_never) pss_nil)
      (pss_cons (ps_if (pt_not (pt_val (p_call G hr (pa_cons (pv 1) (pa_cons pe_int (pa_cons (pe_glob (v := .int 1000) (by rfl) hM ⟨_, rfl⟩) pa_nil)))))) (pss_one ps_never) pss_nil)
      (pss_cons (ps_if (pt_cmpR op_lt (pv 1) (pe_fld (pv 0) rfl) (nomark _)) (pss_one ps_never) pss_nil)
      (pss_one (ps_fldA (pv 0) (pv 1) rfl)))), ?_⟩
    have hne := hL.ne
    obtain ⟨dx, tp, h1, htp⟩ := id hL.ob
    walk_at "rds"
    refine ⟨n, 1, 1000, rfl, _, rfl, ?_⟩
    rw [decide_eq_true (show 1 ≤ n ∧ n ≤ 1000 from ⟨hn1, hn2⟩)]
    refine iteF ?_
    walk_at "rds"
    rw [if_neg (show ¬ n < s.reach by omega)]
    intro H1 g1 s1
    exact k H1 ⟨⟨dx, tp, g1, s1.tup _ _ htp⟩, s1.keep _ _ hL.dc (by simpa using hne.symm)⟩ s1
def sp_Mixer_end (K : PySem.W.Frag) (cs : Cs) : Sp := fun vs H Q _ => ∃ (m d k : Addr) (s : MixS) (e : MV) (n : Int), vs = [.ref m, .int e.1, .int n] ∧ MixAt K cs H m d k s ∧ e ∈ s.vs ∧ 0 ≤ e.1 ∧ e.1 ≤ 5 ∧ e.2.2.line.many = none ∧ 1 ≤ n ∧ n ≤ 1000 ∧ e.2.2.line.reach ≤ n ∧
  ∀ H', MixAt K cs H' m d k { s with vs := setV s.vs e.1 { e.2.2 with line := { e.2.2.line with many := some n } } } → Stp e.2.1.foot H H' → Q .non H'
theorem sc_Mixer_end : FnScope ["self", "name", "many"] ["self", "name", "many"] (defScope s_Mixer_end) := ⟨rfl, rfl, rfl, by decide +kernel, rfl, by decide +kernel, by decide +kernel⟩
theorem ok_Mixer_end {f : Addr} {fd : FuncData} (F : Fun K "end" "Mixer.end" s_Mixer_end f fd) (TVV : TV K cs.V) (G1 : OwnM P w K mg base cs.M "voice_of" 3 ["self", "name"] (sp_Mixer_voice_of K cs)) (G2 : OwnM P w K mg base cs.L "close" 2 ["self", "many"] (sp_Line_close cs.L)) :
    FnOk P w K mg base CX0 4 f fd ["self", "name", "many"] (sp_Mixer_end K cs) := by
  refine F.ok sc_Mixer_end (fun vs H Q E h => ?_) (fun cdv A outer s H vs Q E hr h => ?_)
  · obtain ⟨m, d, k, s, e, n, rfl, _⟩ := h
    rfl
  · obtain ⟨m, d, k, s, e, n, rfl, hM, he, h0, h5, hm, hn1, hn2, hre, q⟩ := h
    refine ⟨_, pss_one (ps_expr (p_meth G2 (hr.mono (by decide)) (pe_fld (p_meth G1 hr (pv 0) (pa_cons (pv 1) pa_nil)) rfl) (pa_cons (pv 2) pa_nil))), ?_⟩
    obtain ⟨dx, h1⟩ := id hM.ob
    have hv := hM.vo e he
    obtain ⟨dy, pv', hv', g1, g2, g3⟩ := hv.ob
    obtain ⟨dl, tpl, gl, _⟩ := hv.line.ob
    obtain ⟨cl, a1, _⟩ := TVV
    walk_at "rds"
    refine ⟨m, d, k, s, e, rfl, hM, he, h0, h5, ?_⟩
    walk_at "rds"
    refine ⟨e.2.1.l, e.2.1.c, e.2.2.line, n, rfl, hv.line, hm, hn1, hn2, hre, fun H1 hL s1 => ?_⟩
    have s2 : Stp [e.2.1.l, e.2.1.c] H H1 := s1.sub (by simp)
    exact q H1 (hM.turn he s2 (by simp [VA.foot]) (hv.lined s2 hL)) (s2.sub (by simp [VA.foot]))
end
end Mx

namespace Mx
open PySem L2
set_option hygiene false in
local macro_rules | `(tactic| walk_at "rd") => `(tactic| try simp only [L2.start, List.map_cons, List.map_nil, List.length_cons, List.length_nil, Nat.reduceAdd, Nat.reduceSub, Nat.reduceLT, Nat.reduceLeDiff, List.replicate_succ, List.replicate_zero, List.append_nil, List.nil_append, List.cons_append, List.set_cons_zero, List.set_cons_succ, List.getElem?_cons_zero, List.getElem?_cons_succ,
  Option.some.injEq, List.cons.injEq, and_true, true_and, and_assoc, reduceCtorEq, L2.V.int.injEq, L2.V.ref.injEq, L2.V.bl.injEq, L2.V.str.injEq, L2.V.ty.injEq, L2.HO.ins.injEq, L2.HO.lst.injEq, L2.HO.tup.injEq, L2.HO.dK.injEq, exists_eq_left', exists_eq_left, exists_eq_right, exists_eq', exists_eq, exists_and_left, exists_and_right, reduceIte, Bool.false_eq_true, Bool.not_true, Bool.not_false,
  L2.tSeq, L2.tIfS, L2.tRet, L2.tRetN, L2.tNext, L2.tAsg, L2.gName, L2.tVar, L2.tC, L2.tCons, L2.tNil, L2.tCB, L2.tOp, L2.tUn, L2.tTup, L2.tLst, L2.tB, L2.tOr, L2.tAnd, L2.tNot, L2.tAndV, L2.tOrV, L2.tNotV, L2.tIf, L2.tTest, L2.tChain, L2.rI, L2.rI0, L2.rU, L2.tDrop, L2.tNever, L2.tCall, L2.tMeth, L2.tMake, L2.rGcd, L2.tFld, L2.sFld, L2.sFldAug, Mx.sFldA, Mx.sFldAugA, L2.rAdd, L2.rSub, L2.rEq, L2.rNe, L2.tDGet, L2.tDIn, L2.tDNotIn, L2.sDPut,
  Mx.isi_int_bool, Mx.isi_int_int, Mx.isi_int_tuple, Mx.isi_int_list, Mx.isi_int_str, Mx.scal_int, Mx.scal_str, Mx.scal_bl, Mx.ofString_inj, Mx.ofString_beq, Mx.lk_cons, Mx.pf_nil, Mx.pf_cons, Mx.sz1, Mx.sz2, List.lookup_nil, String.reduceEq, decide_true, decide_false, decide_eq_true_eq, Int.natAbs_natCast, L2.upd_same, L2.upd_upd, L2.cxOf, Mx.fsM, Mx.fsV, Mx.fsD])
set_option hygiene false in
local macro_rules | `(tactic| walk_at "rds") => `(tactic| try simp only [L2.start, List.map_cons, List.map_nil, List.length_cons, List.length_nil, Nat.reduceAdd, Nat.reduceSub, Nat.reduceLT, Nat.reduceLeDiff, List.replicate_succ, List.replicate_zero, List.append_nil, List.nil_append, List.cons_append, List.set_cons_zero, List.set_cons_succ, List.getElem?_cons_zero, List.getElem?_cons_succ,
  Option.some.injEq, List.cons.injEq, and_true, true_and, and_assoc, reduceCtorEq, L2.V.int.injEq, L2.V.ref.injEq, L2.V.bl.injEq, L2.V.str.injEq, L2.V.ty.injEq, L2.HO.ins.injEq, L2.HO.lst.injEq, L2.HO.tup.injEq, L2.HO.dK.injEq, exists_eq_left', exists_eq_left, exists_eq_right, exists_eq', exists_eq, exists_and_left, exists_and_right, reduceIte, Bool.false_eq_true, Bool.not_true, Bool.not_false,
  L2.tSeq, L2.tIfS, L2.tRet, L2.tRetN, L2.tNext, L2.tAsg, L2.gName, L2.tVar, L2.tC, L2.tCons, L2.tNil, L2.tCB, L2.tOp, L2.tUn, L2.tTup, L2.tLst, L2.tB, L2.tOr, L2.tAnd, L2.tNot, L2.tAndV, L2.tOrV, L2.tNotV, L2.tIf, L2.tTest, L2.tChain, L2.rI, L2.rI0, L2.rU, L2.tDrop, L2.tNever, L2.tCall, L2.tMeth, L2.tMake, L2.rGcd, L2.tFld, L2.sFld, L2.sFldAug, Mx.sFldA, Mx.sFldAugA, L2.rAdd, L2.rSub, L2.rEq, L2.rNe, L2.tDGet, L2.tDIn, L2.tDNotIn, L2.sDPut,
  Mx.isi_int_bool, Mx.isi_int_int, Mx.isi_int_tuple, Mx.isi_int_list, Mx.isi_int_str, Mx.scal_int, Mx.scal_str, Mx.scal_bl, Mx.ofString_inj, Mx.ofString_beq, Mx.lk_cons, Mx.pf_nil, Mx.pf_cons, Mx.sz1, Mx.sz2, List.lookup_nil, String.reduceEq, decide_true, decide_false, decide_eq_true_eq, Int.natAbs_natCast, L2.upd_same, L2.upd_upd, L2.cxOf, Mx.fsM, Mx.fsV, Mx.fsD, *])

section
variable {P : Program} {w : World} {K : PySem.W.Frag} {mg : Str → Option Value} {base : Heap} {cs : Cs} {C : Addr}
def sp_Mixer_heard (K : PySem.W.Frag) (cs : Cs) (b : Bool) : Sp := fun vs H Q _ => ∃ (m d k : Addr) (s : MixS) (e : MV), vs = [.ref m, .int e.1] ∧ MixAt K cs H m d k s ∧ e ∈ s.vs ∧ 0 ≤ e.1 ∧ e.1 ≤ 5 ∧
  ∀ H', MixAt K cs H' m d k { s with vs := setV s.vs e.1 { e.2.2 with heard := b } } → Stp e.2.1.foot H H' → Q .non H'
theorem sc_Mixer_hush : FnScope ["self", "name", "voice"] ["self", "name"] (defScope s_Mixer_hush) := ⟨rfl, rfl, rfl, by decide +kernel, rfl, by decide +kernel, by decide +kernel⟩
theorem VoiceAt.own {H H' : Hp} {A : VA} {v u : VoiceS} (h : VoiceAt K cs H A v) (s : Stp [A.a] H H') (ho : VObj K cs.V H' A.a A.l A.q u) (e1 : u.line = v.line) (e2 : u.loud = v.loud) : VoiceAt K cs H' A u := by
  obtain ⟨n1, n2, n3, n4, n5, n6⟩ := nd4 h.nd
  exact ⟨ho, by rw [e1]; exact h.line.st s (by simpa using n1.symm) (by simpa using n2.symm), by rw [e2]; exact h.loud.st s (by simpa using n3.symm), h.nd⟩
theorem ok_Mixer_hush {f : Addr} {fd : FuncData} (F : Fun K "hush" "Mixer.hush" s_Mixer_hush f fd) (TVV : TV K cs.V) (G : OwnM P w K mg base cs.M "voice_of" 3 ["self", "name"] (sp_Mixer_voice_of K cs)) : FnOk P w K mg base CX0 4 f fd ["self", "name"] (sp_Mixer_heard K cs false) := by
  refine F.ok sc_Mixer_hush (fun vs H Q E h => ?_) (fun cdv A outer s H vs Q E hr h => ?_)
  · obtain ⟨m, d, k, s, e, rfl, _⟩ := h
    rfl
  · obtain ⟨m, d, k, s, e, rfl, hM, he, h0, h5, q⟩ := h
    refine ⟨_, pss_cons (ps_set (i := 2) sc_Mixer_hush.nd rfl (.inl rfl) (p_meth G hr (pv 0) (pa_cons (pv 1) pa_nil))) (pss_one (ps_fldA (pv 2) pe_bl rfl)), ?_⟩
    obtain ⟨vcl, b1, b2, b3, b4, b5, b6, b7⟩ := TVV
    obtain ⟨dx, h1⟩ := id hM.ob
    have hv := hM.vo e he
    obtain ⟨dy, pv', hv', v1, v2, v3⟩ := hv.ob
    walk_at "rds"
    refine ⟨m, d, k, s, e, rfl, hM, he, h0, h5, ?_⟩
    walk_at "rds"
    intro H1 g1 s1
    exact q H1 (hM.turn he s1 (by simp [VA.foot]) (hv.own s1 ⟨dy, _, _, g1, v2.st s1, v3.st s1⟩ rfl rfl)) (s1.sub (by simp [VA.foot]))
end
end Mx

namespace Mx
open PySem L2
/-! ### a beat of all voices -/
def MixS.step (s : MixS) (e : MV) : MV := (e.1, e.2.1, e.2.2.give s.coming s.soft)
def lackN (vs : List MV) (t : Int) (n : Int) : Bool := vs.any fun e => decide (e.1 = n) && e.2.2.line.lacks t
/-- behind the voices of these names -/
def MixS.some' (s : MixS) (ys : List Int) : MixS := { s with vs := s.vs.map fun e => if e.1 ∈ ys then s.step e else e, lacked := s.lacked ++ (ys.filter (lackN s.vs s.coming)).map fun n => (n, s.coming) }
def MixS.beat (s : MixS) (ys : List Int) : MixS := { s with coming := s.coming + 1, vs := s.vs.map s.step, lacked := s.lacked ++ (ys.filter (lackN s.vs s.coming)).map fun n => (n, s.coming) }
def partOf (s : MixS) (n : Int) : Rat := match s.vs.find? fun e => decide (e.1 = n) with
  | none => 0
  | some e => (e.2.2.give s.coming s.soft).part
def sumOf (s : MixS) : List Int → Rat
  | [] => 0
  | n :: r => partOf s n + sumOf s r
theorem sumOf_snoc (s : MixS) : ∀ (ys : List Int) (n : Int), sumOf s (ys ++ [n]) = sumOf s ys + partOf s n
  | [], n => by
    show partOf s n + 0 = 0 + partOf s n
    grind
  | m :: r, n => by
    show partOf s m + sumOf s (r ++ [n]) = partOf s m + sumOf s r + partOf s n
    rw [sumOf_snoc s r n]
    grind
theorem partOf_mem {s : MixS} (h : (s.vs.map (·.1)).Nodup) {e : MV} (he : e ∈ s.vs) : partOf s e.1 = (e.2.2.give s.coming s.soft).part := by
  unfold partOf
  have : (s.vs.find? fun f => decide (f.1 = e.1)) = some e := by
    cases q : s.vs.find? fun f => decide (f.1 = e.1) with
    | none =>
      have := List.find?_eq_none.mp q e he
      simp at this
    | some f =>
      have h1 := List.find?_some q
      have h2 := List.mem_of_find?_eq_some q
      rw [nodup_inj h h2 he (of_decide_eq_true h1)]
  rw [this]
theorem lackN_mem {vs : List MV} (h : (vs.map (·.1)).Nodup) {e : MV} (he : e ∈ vs) (t : Int) : lackN vs t e.1 = e.2.2.line.lacks t := by
  unfold lackN
  cases q : e.2.2.line.lacks t with
  | true => exact List.any_eq_true.mpr ⟨e, he, by simp [q]⟩
  | false =>
    rw [List.any_eq_false]
    intro f hf z
    simp only [Bool.and_eq_true, decide_eq_true_eq] at z
    rw [nodup_inj h hf he z.1, q] at z
    exact absurd z.2 (by decide)
theorem Rb.add {n m : Nat} {q r : Rat} (h : Rb n q) (k : Rb m r) : Rb (n + m + 1) (q + r) := by
  rw [← add_mk]
  have e : 2 ^ n * 2 ^ m = 2 ^ (n + m) := (Nat.pow_add 2 n m).symm
  have e2 : 2 ^ (n + m + 1) = 2 ^ (n + m) + 2 ^ (n + m) := by rw [Nat.pow_succ]; omega
  have p1 : q.den * r.den < 2 ^ (n + m) := by rw [← e]; exact Nat.mul_lt_mul'' h.den k.den
  have p2 : (q.num * r.den).natAbs < 2 ^ (n + m) := by rw [← e, Int.natAbs_mul, Int.natAbs_natCast]; exact Nat.mul_lt_mul'' h.num k.den
  have p3 : (r.num * q.den).natAbs < 2 ^ (n + m) := by rw [← e, Int.natAbs_mul, Int.natAbs_natCast, Nat.mul_comm]; exact Nat.mul_lt_mul'' h.den k.num
  refine Rb.of (Nat.mul_pos q.den_pos r.den_pos) ?_ (by omega)
  omega
theorem MixAt.lack {K : PySem.W.Frag} {cs : Cs} {H : Hp} {m d k : Addr} {s : MixS} (h : MixAt K cs H m d k s) {ls : List V} (hl : H k = Option.some (.lst ls)) {T : Addr} {n b : Int} (hT : H T = Option.some (.tup [.int n, .int b])) :
    MixAt K cs (upd H k (.lst (ls ++ [.ref T]))) m d k { s with lacked := s.lacked ++ [(n, b)] } := by
  have hne := h.ne
  obtain ⟨⟨dx, h1⟩, h2, ⟨ls', h3, h4⟩, h5, h6, h7, h8⟩ := h
  rw [hl] at h3
  cases h3
  have g := Stp.put (o := .lst (ls ++ [.ref T])) hl (fun xs z => nomatch z)
  refine ⟨⟨dx, g.keep _ _ h1 (by simpa using hne.2.1)⟩, g.keep _ _ h2 (by simpa using hne.2.2), ⟨_, upd_same, (pairs_st g h4).snoc ⟨T, rfl, g.tup _ _ hT⟩⟩, fun e he => (h5 e he).st g fun x hx z => ?_, h6, h7, h8⟩
  exact (h6 e he).2.2 (List.mem_singleton.mp z ▸ hx)
theorem MixAt.low {K : PySem.W.Frag} {cs : Cs} {H : Hp} {m d k : Addr} {s : MixS} (h : MixAt K cs H m d k s) {ls : List V} (hl : H k = Option.some (.lst ls)) : ls.length = s.lacked.length := by
  obtain ⟨ls', h3, h4⟩ := h.lk
  rw [hl] at h3
  cases h3
  have : ∀ {as : List V} {bs : List (Int × Int)}, Paired (IsPair H) as bs → as.length = bs.length := by
    intro as bs hp
    induction hp with
    | nil => rfl
    | cons _ _ ih => rw [List.length_cons, List.length_cons, ih]
  exact this h4
theorem some_nil (s : MixS) : s.some' [] = s := by
  unfold MixS.some'
  have : (s.vs.map fun e => if e.1 ∈ ([] : List Int) then s.step e else e) = s.vs := by
    rw [List.map_congr_left (g := id) fun e _ => by simp, List.map_id]
  rw [this]
  simp
theorem some_step {s : MixS} (h : (s.vs.map (·.1)).Nodup) {e : MV} (he : e ∈ s.vs) {zs ys : List Int} (hni : e.1 ∉ zs) (ht : ys = zs ++ [e.1]) {more : List (Int × Int)} (hl : e.2.2.line.lacks s.coming = true ∧ more = [(e.1, s.coming)] ∨ e.2.2.line.lacks s.coming = false ∧ more = []) :
    { s.some' zs with lacked := (s.some' zs).lacked ++ more, vs := setV (s.some' zs).vs e.1 (e.2.2.give s.coming s.soft) } = s.some' ys := by
  subst ht
  unfold MixS.some'
  have hv : setV (s.vs.map fun f => if f.1 ∈ zs then s.step f else f) e.1 (e.2.2.give s.coming s.soft) = s.vs.map fun f => if f.1 ∈ zs ++ [e.1] then s.step f else f := by
    unfold setV
    rw [List.map_map]
    refine List.map_congr_left fun f hf => ?_
    show (if (if f.1 ∈ zs then s.step f else f).1 = e.1 then ((if f.1 ∈ zs then s.step f else f).1, (if f.1 ∈ zs then s.step f else f).2.1, e.2.2.give s.coming s.soft) else (if f.1 ∈ zs then s.step f else f)) = _
    by_cases q : f.1 = e.1
    · have := nodup_inj h hf he q
      subst this
      rw [if_neg hni, if_pos rfl, if_pos (by simp)]
      rfl
    · by_cases z : f.1 ∈ zs
      · rw [if_pos z, if_neg (show ¬ (s.step f).1 = e.1 from q), if_pos (by simp [z])]
      · rw [if_neg z, if_neg q, if_neg (by simp [z, q])]
  have hl2 : (s.lacked ++ (zs.filter (lackN s.vs s.coming)).map fun n => (n, s.coming)) ++ more = s.lacked ++ ((zs ++ [e.1]).filter (lackN s.vs s.coming)).map fun n => (n, s.coming) := by
    rw [List.filter_append, List.map_append, List.append_assoc]
    congr 2
    rw [List.filter_cons, lackN_mem h he]
    rcases hl with ⟨a, b⟩ | ⟨a, b⟩
    · rw [a, b]
      rfl
    · rw [a, b]
      rfl
  rw [hl2]
  dsimp only
  rw [hv]
structure MixOk (d : Nat) (s : MixS) : Prop where
  s1 : 1 ≤ s.soft
  s2 : s.soft ≤ 16
  d0 : 0 < d
  vo : ∀ e ∈ s.vs, VoiceOk d s.soft e.2.2
  nm : ∀ e ∈ s.vs, 0 ≤ e.1 ∧ e.1 ≤ 5
  six : s.vs.length ≤ 6
  bits : (s.vs.length + 1) * (d + 25) < 4400
  lk : s.lacked.length + s.vs.length ≤ 100000
theorem sum_rb {b : Nat} {s : MixS} (hO : MixOk b s) (hn : (s.vs.map (·.1)).Nodup) : ∀ (zs : List Int), (∀ n ∈ zs, ∃ e ∈ s.vs, e.1 = n) → Rb (1 + zs.length * (b + 25)) (sumOf s zs)
  | [], _ => ⟨by show (0 : Int).natAbs < _; exact Nat.two_pow_pos _, by show 1 < _; exact Nat.one_lt_two_pow (by omega)⟩
  | n :: r, h => by
    obtain ⟨e, he, rfl⟩ := h n List.mem_cons_self
    have h1 := sum_rb hO hn r fun m hm => h m (List.mem_cons_of_mem _ hm)
    have h2 := ((hO.vo e he).give hO.s1 hO.s2 s.coming).part
    have h3 := h2.add h1
    show Rb _ (partOf s e.1 + sumOf s r)
    rw [partOf_mem hn he]
    refine h3.mono ?_
    rw [List.length_cons, Nat.add_mul, Nat.one_mul]
    omega
set_option hygiene false in
local macro_rules | `(tactic| walk_at "rd") => `(tactic| try simp only [L2.start, List.map_cons, List.map_nil, List.length_cons, List.length_nil, Nat.reduceAdd, Nat.reduceSub, Nat.reduceLT, Nat.reduceLeDiff, List.replicate_succ, List.replicate_zero, List.append_nil, List.nil_append, List.cons_append, List.set_cons_zero, List.set_cons_succ, List.getElem?_cons_zero, List.getElem?_cons_succ,
  Option.some.injEq, List.cons.injEq, and_true, true_and, and_assoc, reduceCtorEq, L2.V.int.injEq, L2.V.ref.injEq, L2.V.bl.injEq, L2.V.str.injEq, L2.V.ty.injEq, L2.HO.ins.injEq, L2.HO.lst.injEq, L2.HO.tup.injEq, L2.HO.dK.injEq, exists_eq_left', exists_eq_left, exists_eq_right, exists_eq', exists_eq, exists_and_left, exists_and_right, reduceIte, Bool.false_eq_true, Bool.not_true, Bool.not_false,
  L2.tSeq, L2.tIfS, L2.tRet, L2.tRetN, L2.tNext, L2.tAsg, L2.gName, L2.tVar, L2.tC, L2.tCons, L2.tNil, L2.tCB, L2.tOp, L2.tUn, L2.tTup, L2.tLst, L2.tB, L2.tOr, L2.tAnd, L2.tNot, L2.tAndV, L2.tOrV, L2.tNotV, L2.tIf, L2.tTest, L2.tChain, L2.rI, L2.rI0, L2.rU, L2.tDrop, L2.tNever, L2.tCall, L2.tMeth, L2.tMake, L2.rGcd, L2.tFld, L2.sFld, L2.sFldAug, Mx.sFldA, Mx.sFldAugA, L2.rAdd, L2.rSub, L2.rEq, L2.rNe, L2.tDGet, L2.tDIn, L2.tDNotIn, L2.sDPut,
  Mx.isi_int_bool, Mx.isi_int_int, Mx.isi_int_tuple, Mx.isi_int_list, Mx.isi_int_str, Mx.scal_int, Mx.scal_str, Mx.scal_bl, Mx.ofString_inj, Mx.ofString_beq, Mx.lk_cons, Mx.pf_nil, Mx.pf_cons, Mx.sz1, Mx.sz2, List.lookup_nil, String.reduceEq, decide_true, decide_false, decide_eq_true_eq, Int.natAbs_natCast, L2.upd_same, L2.upd_upd, L2.cxOf, Mx.fsM, Mx.fsV, Mx.fsL, Mx.optV])
set_option hygiene false in
local macro_rules | `(tactic| walk_at "rds") => `(tactic| try simp only [L2.start, List.map_cons, List.map_nil, List.length_cons, List.length_nil, Nat.reduceAdd, Nat.reduceSub, Nat.reduceLT, Nat.reduceLeDiff, List.replicate_succ, List.replicate_zero, List.append_nil, List.nil_append, List.cons_append, List.set_cons_zero, List.set_cons_succ, List.getElem?_cons_zero, List.getElem?_cons_succ,
  Option.some.injEq, List.cons.injEq, and_true, true_and, and_assoc, reduceCtorEq, L2.V.int.injEq, L2.V.ref.injEq, L2.V.bl.injEq, L2.V.str.injEq, L2.V.ty.injEq, L2.HO.ins.injEq, L2.HO.lst.injEq, L2.HO.tup.injEq, L2.HO.dK.injEq, exists_eq_left', exists_eq_left, exists_eq_right, exists_eq', exists_eq, exists_and_left, exists_and_right, reduceIte, Bool.false_eq_true, Bool.not_true, Bool.not_false,
  L2.tSeq, L2.tIfS, L2.tRet, L2.tRetN, L2.tNext, L2.tAsg, L2.gName, L2.tVar, L2.tC, L2.tCons, L2.tNil, L2.tCB, L2.tOp, L2.tUn, L2.tTup, L2.tLst, L2.tB, L2.tOr, L2.tAnd, L2.tNot, L2.tAndV, L2.tOrV, L2.tNotV, L2.tIf, L2.tTest, L2.tChain, L2.rI, L2.rI0, L2.rU, L2.tDrop, L2.tNever, L2.tCall, L2.tMeth, L2.tMake, L2.rGcd, L2.tFld, L2.sFld, L2.sFldAug, Mx.sFldA, Mx.sFldAugA, L2.rAdd, L2.rSub, L2.rEq, L2.rNe, L2.tDGet, L2.tDIn, L2.tDNotIn, L2.sDPut,
  Mx.isi_int_bool, Mx.isi_int_int, Mx.isi_int_tuple, Mx.isi_int_list, Mx.isi_int_str, Mx.scal_int, Mx.scal_str, Mx.scal_bl, Mx.ofString_inj, Mx.ofString_beq, Mx.lk_cons, Mx.pf_nil, Mx.pf_cons, Mx.sz1, Mx.sz2, List.lookup_nil, String.reduceEq, decide_true, decide_false, decide_eq_true_eq, Int.natAbs_natCast, L2.upd_same, L2.upd_upd, L2.cxOf, Mx.fsM, Mx.fsV, Mx.fsL, Mx.optV, *])

section
variable {P : Program} {w : World} {K : PySem.W.Frag} {mg : Str → Option Value} {base : Heap} {cs : Cs} {C : Addr}
def sp_Mixer_beat (K : PySem.W.Frag) (cs : Cs) : Sp := fun vs H Q _ => ∃ (m d k : Addr) (s : MixS) (b : Nat), vs = [.ref m] ∧ MixAt K cs H m d k s ∧ MixOk b s ∧
  ∀ (r : V) (ys : List Int) (H' : Hp), ys.Perm (s.vs.map (·.1)) → ys.Pairwise (· ≤ ·) → IsQ K H' r (sumOf s ys) → MixAt K cs H' m d k (s.beat ys) → Stp (s.foot m d k) H H' → Q r H'
theorem sc_Mixer_beat : FnScope ["self", "total", "name", "voice"] ["self"] (defScope s_Mixer_beat) := ⟨rfl, rfl, rfl, by decide +kernel, rfl, by decide +kernel, by decide +kernel⟩
theorem ok_Mixer_beat {f : Addr} {fd : FuncData} (F : Fun K "beat" "Mixer.beat" s_Mixer_beat f fd) (T : TM K cs.M) (TVV : TV K cs.V) (TT : TC K mg) (B : Blt mg) (G1 : OwnM P w K mg base cs.L "lacks" 5 ["self", "beat"] (sp_Line_bool cs.L LineS.lacks))
    (G2 : OwnM P w K mg base cs.V "give" 7 ["self", "beat", "soft"] (sp_Voice_give K cs)) (G3 : OwnF P w K mg base "plus" 2 ["one", "other"] (sp_two (· + ·) K)) : FnOk P w K mg base CX0 8 f fd ["self"] (sp_Mixer_beat K cs) := by
  refine F.ok sc_Mixer_beat (fun vs H Q E h => ?_) (fun cdv A outer s H vs Q E hr h => ?_)
  · obtain ⟨m, d, k, s, b, rfl, _⟩ := h
    rfl
  · obtain ⟨m, d, k, s, b, rfl, hM, hO, q⟩ := h
    obtain ⟨aN, hN, hN2⟩ := TT.nothing
    have hu := hu_of hr
    refine ⟨_, pss_cons (ps_set (i := 1) sc_Mixer_beat.nd rfl (.inl rfl) (pe_glob (v := .ref aN) (by rfl) hN rfl))
      (pss_cons (ps_for PassesOwn.never rfl (pi_list (pe_callB (call_sortedDI rfl) (by rfl) B.sorted PyProof.Rows.boot_sorted (pa_cons (pe_fld (pv 0) rfl) pa_nil))) (pg_name (i := 2) sc_Mixer_beat.nd rfl (.inl rfl))
        (pss_cons (ps_set (i := 3) sc_Mixer_beat.nd rfl (.inl rfl) (pe_dget hu (pe_fld (pv 0) rfl) (pv 2) (fun _ _ => rfl)))
        (pss_cons (ps_if (pt_val (p_meth G1 (hr.mono (by decide)) (pe_fld (pv 3) rfl) (pa_cons (pe_fld (pv 0) rfl) pa_nil)))
          (pss_one (ps_expr (pe_bm PySem.F.plainAttrs_list PySem.F.slot_list_append PySem.F.type_list_append mt_append (pe_fld (pv 0) rfl) (pa_cons (pe_tup (pa_cons (pv 2) (pa_cons (pe_fld (pv 0) rfl) pa_nil))) pa_nil)))) pss_nil)
        (pss_one (ps_set (i := 1) sc_Mixer_beat.nd rfl (.inl rfl) (p_call G3 (hr.mono (by decide)) (pa_cons (pv 1) (pa_cons (p_meth G2 hr (pv 3) (pa_cons (pe_fld (pv 0) rfl) (pa_cons (pe_fld (pv 0) rfl) pa_nil))) pa_nil))))))))
      (pss_cons (ps_fldaugA (pv 0) pe_int in_add) (pss_one (ps_ret (pv 1))))), ?_⟩
    obtain ⟨cl, a1, a2, a3, a4⟩ := T
    obtain ⟨vcl, b1, _⟩ := TVV
    obtain ⟨dx, h1⟩ := id hM.ob
    have hdv := hM.dv
    walk_at "rds"
    have hlen6 : (s.vs.length + 1) * (b + 25) < 4400 := hO.bits
    have hvl : s.vs.length < 64 := Nat.lt_of_le_of_lt hO.six (by decide)
    refine ⟨_, rfl, m, cs.M, dx, _, _, rfl, h1, cl, a3, rfl, d, rfl, _, .inl hdv, s.vs.map (·.1), ?_, ?_, fun ys p hpm hpw hp0 => ⟨p, rfl, ⟨_, .inl (.inl upd_same)⟩, ?_⟩⟩
    · unfold vdict
      rw [List.map_map, List.map_map]
      rfl
    · rw [List.length_map]
      exact hvl
    have hpf : p ∉ s.foot m d k := fun z => hM.some p z hp0
    have s0 := Stp.new (o := .lst (ys.map V.int)) hp0
    have hndy : ys.Nodup := hpm.nodup_iff.mpr hM.nm
    have hsub : ∀ n ∈ ys, ∃ e ∈ s.vs, e.1 = n := fun n hn => by
      obtain ⟨e, he, q⟩ := List.mem_map.mp (hpm.mem_iff.mp hn)
      exact ⟨e, he, q⟩
    have hyl : ys.length = s.vs.length := by rw [hpm.length_eq, List.length_map]
    refine for_list (K := K) (a := p) (xs := ys.map V.int) (fun i σ H2 => ∃ tv v2 v3, σ = [some (.ref m), some tv, v2, v3] ∧ IsQ K H2 tv (sumOf s (ys.take i)) ∧ MixAt K cs H2 m d k (s.some' (ys.take i)) ∧ Stp (s.foot m d k) H H2 ∧ H2 p = some (.lst (ys.map V.int)))
      ⟨_, _, _, rfl, isQ0 hN2, by rw [List.take_zero, some_nil]; exact hM.st0 s0, s0.sub (by simp), upd_same⟩ (fun i σ H2 _ h => ?_) (fun i x σ H2 hi h => ?_) (fun σ H2 h => ?_)
    · obtain ⟨_, _, _, _, _, _, _, hp2⟩ := h
      exact .inl (.inl hp2)
    · obtain ⟨tv, v2, v3, rfl, htv, hM2, st2, hp2⟩ := h
      rw [List.getElem?_map] at hi
      obtain ⟨n, hn, rfl⟩ := Option.map_eq_some_iff.mp hi
      have hil : i < ys.length := (List.getElem?_eq_some_iff.mp hn).1
      have hnm : n ∈ ys := List.mem_of_getElem? hn
      obtain ⟨e, he, rfl⟩ := hsub n hnm
      have htk : ys.take (i + 1) = ys.take i ++ [e.1] := by rw [List.take_add_one, hn]; rfl
      have hni : e.1 ∉ ys.take i := by
        intro z
        have h2 := hndy.sublist (List.take_sublist (i + 1) ys)
        rw [htk, List.nodup_append] at h2
        exact h2.2.2 _ z _ (by simp) rfl
      have he2 : e ∈ (s.some' (ys.take i)).vs := by
        refine List.mem_map.mpr ⟨e, he, ?_⟩
        rw [if_neg hni]
      have hib : (i + 1) * (b + 25) ≤ s.vs.length * (b + 25) := Nat.mul_le_mul_right _ (by omega)
      have hsb : (s.vs.length + 1) * (b + 25) = s.vs.length * (b + 25) + (b + 25) := by rw [Nat.add_mul, Nat.one_mul]
      have hib1 : (i + 1) * (b + 25) = i * (b + 25) + (b + 25) := by rw [Nat.add_mul, Nat.one_mul]
      obtain ⟨dx2, h12⟩ := hM2.ob
      have hd2 := hM2.dv
      have gd := DGet.k (k := (Sum.inl e.1 : Key)) hd2
      rw [vdict_get hM2.nm he2] at gd
      have hv2 := hM2.vo e he2
      obtain ⟨dy2, pv2', hv2', gv2, _, _⟩ := hv2.ob
      obtain ⟨dl2, tp2, gl2, _⟩ := hv2.line.ob
      walk_at "rds"
      refine ⟨_, gd, ?_⟩
      walk_at "rds"
      refine ⟨e.2.1.l, e.2.1.c, e.2.2.line, s.coming, rfl, hv2.line, (hO.vo e he).line, fun H3 s3 => ?_⟩
      have hM3 := hM2.st0 s3
      have hrb : Rb (1 + i * (b + 25)) (sumOf s (ys.take i)) := by
        have := sum_rb hO hM.nm (ys.take i) fun n hn => hsub n (List.mem_of_mem_take hn)
        rw [List.length_take, Nat.min_eq_left (by omega)] at this
        exact this
      walk_at "rd"
      cases hlk : e.2.2.line.lacks s.coming with
      | false =>
        have hlk2 : e.2.2.line.lacks s.coming = true ∧ ([] : List (Int × Int)) = [(e.1, s.coming)] ∨ e.2.2.line.lacks s.coming = false ∧ ([] : List (Int × Int)) = [] := .inr ⟨hlk, rfl⟩
        rw [if_neg (by decide)]
        have hM4 : MixAt K cs H3 m d k { s.some' (ys.take i) with lacked := (s.some' (ys.take i)).lacked ++ [] } := by
          rw [List.append_nil]
          exact hM3
        have st4 := st2.trans s3
        have ht4 := htv.st s3
        have hp4 := s3.keep _ _ hp2 (by simp)
        have hv4 := hM4.vo e he2
        obtain ⟨dx4, g4⟩ := hM4.ob
        obtain ⟨dy4, pv4, hv4', gv4, _, _⟩ := hv4.ob
        walk_at "rds"
        refine ⟨e.2.1, e.2.2, s.coming, s.soft, b, rfl, hv4, hO.vo e he, hO.s1, hO.s2, hO.d0, by omega, fun r H5 hr5 hv5 s5 => ?_⟩
        obtain ⟨ar, rfl, tr⟩ := hr5
        obtain ⟨atv, rfl, ttv⟩ := ht4
        have hM5 := hM4.turn he2 s5 (fun x hx => hx) hv5
        refine ⟨atv, ar, sumOf s (ys.take i), (e.2.2.give s.coming s.soft).part, 1 + i * (b + 25), b + 24, rfl, ttv.st s5, tr, hrb, ((hO.vo e he).give hO.s1 hO.s2 s.coming).part, by omega, by omega, by omega, fun r6 H6 hp6 s6 l6 => ?_⟩
        have hfe : ∀ x ∈ e.2.1.foot, x ∈ s.foot m d k := fun x hx => by
          unfold MixS.foot
          exact List.mem_cons_of_mem _ (List.mem_cons_of_mem _ (List.mem_cons_of_mem _ (List.mem_flatMap.mpr ⟨e, he, hx⟩)))
        refine ⟨?_, ?_, ((st4.trans s5).trans s6).sub ?_, ?_⟩
        · rw [sumOf_snoc, partOf_mem hM.nm he]
          exact isQ_of l6
        · have := hM5.st0 s6
          rw [some_step hM.nm he hni rfl hlk2] at this
          exact this
        · intro x hx
          simp only [List.append_nil, List.mem_append] at hx
          exact hx.elim id (hfe x)
        · exact s6.keep _ _ (s5.keep _ _ hp4 fun z => hpf (hfe _ z)) (by simp)
      | true =>
        have hlk2 : e.2.2.line.lacks s.coming = true ∧ [(e.1, s.coming)] = [(e.1, s.coming)] ∨ e.2.2.line.lacks s.coming = false ∧ [(e.1, s.coming)] = [] := .inl ⟨hlk, rfl⟩
        rw [if_pos rfl]
        obtain ⟨ls, hl3, hpr3⟩ := hM3.lk
        obtain ⟨dx3, g3⟩ := hM3.ob
        refine ⟨_, rfl, m, cs.M, dx3, _, _, rfl, g3, cl, a4, rfl, .inl ⟨rfl, _, .inl (.inl hl3)⟩, ?_⟩
        refine ⟨_, rfl, _, rfl, m, cs.M, dx3, _, _, rfl, g3, cl, a2, rfl, by show 2 ≤ sizeLine; decide, fun T hT => ?_⟩
        have sT := Stp.new (o := .tup [.int e.1, .int (s.some' (ys.take i)).coming]) hT
        have hl4 := sT.keep _ _ hl3 (by simp)
        have hM4 : MixAt K cs (upd (upd H3 T (.tup [.int e.1, .int (s.some' (ys.take i)).coming])) k (.lst (ls ++ [.ref T]))) m d k { s.some' (ys.take i) with lacked := (s.some' (ys.take i)).lacked ++ [(e.1, s.coming)] } := (hM3.st0 sT).lack hl4 (T := T) (n := e.1) (b := (s.some' (ys.take i)).coming) upd_same
        have sL := Stp.put (o := .lst (ls ++ [.ref T])) hl4 (fun xs z => nomatch z)
        have hll := hM3.low hl3
        refine ⟨k, ls, .ref T, rfl, rfl, hl4, ?_, ?_⟩
        · rw [hll]
          have h1 : (s.some' (ys.take i)).lacked.length ≤ s.lacked.length + i := by
            show (s.lacked ++ ((ys.take i).filter (lackN s.vs s.coming)).map fun n => (n, s.coming)).length ≤ _
            rw [List.length_append, List.length_map]
            have := List.length_filter_le (lackN s.vs s.coming) (ys.take i)
            rw [List.length_take] at this
            omega
          have := hO.lk
          exact Nat.lt_of_le_of_lt (show _ ≤ 100000 by omega) (by decide)
        have st4 := ((st2.trans s3).trans sT).trans sL
        have ht4 := ((htv.st s3).st sT).st sL
        have hkp : p ≠ k := fun z => hpf (by rw [z]; simp [MixS.foot])
        have hp4 := sL.keep _ _ (sT.keep _ _ (s3.keep _ _ hp2 (by simp)) (by simp)) (by simpa using hkp)
        have hkf : k ∈ s.foot m d k := by simp [MixS.foot]
        have st4' := st4.sub (G := s.foot m d k) (by
          intro x hx
          simp only [List.append_nil, List.mem_append, List.mem_singleton] at hx
          exact hx.elim id fun z => z ▸ hkf)
        have st4 := st4'
        generalize upd (upd H3 T (.tup [.int e.1, .int (s.some' (ys.take i)).coming])) k (.lst (ls ++ [.ref T])) = H4 at *
        have hv4 := hM4.vo e he2
        obtain ⟨dx4, g4⟩ := hM4.ob
        obtain ⟨dy4, pv4, hv4', gv4, _, _⟩ := hv4.ob
        walk_at "rds"
        refine ⟨e.2.1, e.2.2, s.coming, s.soft, b, rfl, hv4, hO.vo e he, hO.s1, hO.s2, hO.d0, by omega, fun r H5 hr5 hv5 s5 => ?_⟩
        obtain ⟨ar, rfl, tr⟩ := hr5
        obtain ⟨atv, rfl, ttv⟩ := ht4
        have hM5 := hM4.turn he2 s5 (fun x hx => hx) hv5
        refine ⟨atv, ar, sumOf s (ys.take i), (e.2.2.give s.coming s.soft).part, 1 + i * (b + 25), b + 24, rfl, ttv.st s5, tr, hrb, ((hO.vo e he).give hO.s1 hO.s2 s.coming).part, by omega, by omega, by omega, fun r6 H6 hp6 s6 l6 => ?_⟩
        have hfe : ∀ x ∈ e.2.1.foot, x ∈ s.foot m d k := fun x hx => by
          unfold MixS.foot
          exact List.mem_cons_of_mem _ (List.mem_cons_of_mem _ (List.mem_cons_of_mem _ (List.mem_flatMap.mpr ⟨e, he, hx⟩)))
        refine ⟨?_, ?_, ((st4.trans s5).trans s6).sub ?_, ?_⟩
        · rw [sumOf_snoc, partOf_mem hM.nm he]
          exact isQ_of l6
        · have := hM5.st0 s6
          rw [some_step hM.nm he hni rfl hlk2] at this
          exact this
        · intro x hx
          simp only [List.append_nil, List.mem_append] at hx
          exact hx.elim id (hfe x)
        · exact s6.keep _ _ (s5.keep _ _ hp4 fun z => hpf (hfe _ z)) (by simp)
    · obtain ⟨tv, v2, v3, rfl, htv, hM2, st2, hp2⟩ := h
      rw [List.length_map, List.take_length] at htv hM2
      obtain ⟨dx2, h12⟩ := hM2.ob
      have hne := hM2.ne
      walk_at "rds"
      intro H3 g3 s3
      walk_at "rd"
      refine q tv ys H3 hpm hpw (htv.st s3) ?_ ((st2.trans s3).sub ?_)
      · obtain ⟨_, u2, ⟨ls, u3, u4⟩, u5, u6, u7, u8⟩ := hM2
        have ev : (s.some' ys).vs = (s.beat ys).vs := List.map_congr_left fun e he => by
          rw [if_pos (hpm.mem_iff.mpr (List.mem_map.mpr ⟨e, he, rfl⟩))]
        rw [ev] at u2 u5 u6 u7 u8
        exact ⟨⟨dx2, g3⟩, s3.keep _ _ u2 (by simpa using hne.1.symm), ⟨ls, s3.keep _ _ u3 (by simpa using hne.2.1.symm), pairs_st s3 u4⟩, fun e he => (u5 e he).st s3 fun x hx z => (u6 e he).1 (List.mem_singleton.mp z ▸ hx), u6, u7, u8⟩
      · intro x hx
        simp only [List.mem_append, List.mem_singleton] at hx
        exact hx.elim id fun z => by rw [z]; simp [MixS.foot]
end
end Mx

namespace Mx
open PySem L2
/-! ### the draws -/
/-- the row of draws at r: the script, where one is, what is mixed -/
def RowAt (K : PySem.W.Frag) (H : Hp) (r sc : Addr) (ns : List Int) : Prop := ∃ pos mix : Int, 0 ≤ pos ∧ 0 ≤ mix ∧ mix < 2147483647 ∧ H r = some (.lst [.ref sc, .int pos, .int mix]) ∧ SqL K H sc (ns.map V.int) ∧ (sc ≠ r ∨ ∀ H' : Hp, SqL K H' sc (ns.map V.int))
theorem seq_or {K : PySem.W.Frag} {H H' : Hp} {a r : Addr} {xs : List V} (h : SqL K H a xs) (s : Stp [r] H H') (n : a ≠ r ∨ ∀ H' : Hp, SqL K H' a xs) : SqL K H' a xs := n.elim (fun q => seq_st h s (by simpa using q)) fun q => q H'
theorem RowAt.st {K : PySem.W.Frag} {F : List Addr} {H H' : Hp} {r sc : Addr} {ns : List Int} (h : RowAt K H r sc ns) (s : Stp F H H') (h1 : r ∉ F) (h2 : sc ∉ F) : RowAt K H' r sc ns := by
  obtain ⟨pos, mix, p0, m0, m1, hr, hs, hn⟩ := h
  exact ⟨pos, mix, p0, m0, m1, s.keep _ _ hr h1, seq_st hs s h2, hn⟩
theorem RowAt.st0 {K : PySem.W.Frag} {H H' : Hp} {r sc : Addr} {ns : List Int} (h : RowAt K H r sc ns) (s : Stp [] H H') : RowAt K H' r sc ns := h.st s (by simp) (by simp)
def sp_taken (K : PySem.W.Frag) : Sp := fun vs H Q _ => ∃ (r sc : Addr) (ns : List Int) (many : Int), vs = [.ref r, .int many] ∧ RowAt K H r sc ns ∧ 1 ≤ many ∧ ∀ v H', 0 ≤ v → v < many → RowAt K H' r sc ns → Stp [r] H H' → Q (.int v) H'
theorem at3_0 {x y z : V} : atI [x, y, z] 0 = some x := rfl
theorem at3_1 {x y z : V} : atI [x, y, z] 1 = some y := rfl
theorem at3_2 {x y z : V} : atI [x, y, z] 2 = some z := rfl
theorem ixL {K : PySem.W.Frag} {H : Hp} {p : Addr} {xs : List V} {i : Int} {x : V} {Q : VK} (h : SqL K H p xs) (ha : atI xs i = some x) (q : Q x H) : rIxL K (.ref p) (.int i) H Q := ⟨p, xs, i, x, rfl, rfl, h, ha, q⟩
theorem setL {H : Hp} {p : Addr} {xs : List V} {i : Int} {j : Nat} {v : V} {Q : Hp → Prop} (h : H p = some (.lst xs)) (hi : ixN xs.length i = some j) (q : ∀ H', H' p = some (.lst (xs.set j v)) → Stp [p] H H' → Q H') : rSetL (.ref p) (.int i) v H Q :=
  ⟨p, xs, i, j, rfl, rfl, h, hi, q _ upd_same (Stp.put h fun xs z => nomatch z)⟩
theorem at_nat {ns : List Int} {i : Int} (h0 : 0 ≤ i) (h1 : i < ns.length) : ∃ n, n ∈ ns ∧ atI (ns.map V.int) i = some (.int n) := by
  have hl : i.toNat < ns.length := by omega
  refine ⟨ns[i.toNat], List.getElem_mem hl, ?_⟩
  unfold atI ixN
  rw [if_pos h0, List.length_map, if_pos h1]
  show (ns.map V.int)[i.toNat]? = _
  rw [List.getElem?_map, List.getElem?_eq_getElem hl]
  rfl
set_option hygiene false in
local macro_rules | `(tactic| walk_at "rd") => `(tactic| try simp only [L2.start, List.map_cons, List.map_nil, List.length_cons, List.length_nil, Nat.reduceAdd, Nat.reduceSub, Nat.reduceLT, Nat.reduceLeDiff, List.replicate_succ, List.replicate_zero, List.append_nil, List.nil_append, List.cons_append, List.set_cons_zero, List.set_cons_succ, List.getElem?_cons_zero, List.getElem?_cons_succ,
  Option.some.injEq, List.cons.injEq, and_true, true_and, and_assoc, reduceCtorEq, L2.V.int.injEq, L2.V.ref.injEq, L2.V.bl.injEq, L2.V.str.injEq, L2.V.ty.injEq, L2.HO.ins.injEq, L2.HO.lst.injEq, L2.HO.tup.injEq, L2.HO.dK.injEq, exists_eq_left', exists_eq_left, exists_eq_right, exists_eq', exists_eq, exists_and_left, exists_and_right, reduceIte, Bool.false_eq_true, Bool.not_true, Bool.not_false,
  L2.tSeq, L2.tIfS, L2.tRet, L2.tRetN, L2.tNext, L2.tAsg, L2.gName, L2.tVar, L2.tC, L2.tCons, L2.tNil, L2.tCB, L2.tOp, L2.tUn, L2.tTup, L2.tLst, L2.tB, L2.tOr, L2.tAnd, L2.tNot, L2.tAndV, L2.tOrV, L2.tNotV, L2.tIf, L2.tTest, L2.tChain, L2.rI, L2.rI0, L2.rU, L2.tDrop, L2.tNever, L2.tCall, L2.tMeth, L2.tMake, L2.rGcd, L2.tFld, L2.sFld, L2.sFldAug, Mx.sFldA, Mx.sFldAugA, L2.rAdd, L2.rSub, L2.rEq, L2.rNe, L2.tDGet, L2.tDIn, L2.tDNotIn, L2.sDPut,
  Mx.isi_int_bool, Mx.isi_int_int, Mx.isi_int_tuple, Mx.isi_int_list, Mx.isi_int_str, Mx.scal_int, Mx.scal_str, Mx.scal_bl, Mx.ofString_inj, Mx.ofString_beq, Mx.lk_cons, Mx.pf_nil, Mx.pf_cons, Mx.sz1, Mx.sz2, List.lookup_nil, String.reduceEq, decide_true, decide_false, decide_eq_true_eq, Int.natAbs_natCast, L2.upd_same, L2.upd_upd, L2.cxOf, L2.gSub])
set_option hygiene false in
local macro_rules | `(tactic| walk_at "rds") => `(tactic| try simp only [L2.start, List.map_cons, List.map_nil, List.length_cons, List.length_nil, Nat.reduceAdd, Nat.reduceSub, Nat.reduceLT, Nat.reduceLeDiff, List.replicate_succ, List.replicate_zero, List.append_nil, List.nil_append, List.cons_append, List.set_cons_zero, List.set_cons_succ, List.getElem?_cons_zero, List.getElem?_cons_succ,
  Option.some.injEq, List.cons.injEq, and_true, true_and, and_assoc, reduceCtorEq, L2.V.int.injEq, L2.V.ref.injEq, L2.V.bl.injEq, L2.V.str.injEq, L2.V.ty.injEq, L2.HO.ins.injEq, L2.HO.lst.injEq, L2.HO.tup.injEq, L2.HO.dK.injEq, exists_eq_left', exists_eq_left, exists_eq_right, exists_eq', exists_eq, exists_and_left, exists_and_right, reduceIte, Bool.false_eq_true, Bool.not_true, Bool.not_false,
  L2.tSeq, L2.tIfS, L2.tRet, L2.tRetN, L2.tNext, L2.tAsg, L2.gName, L2.tVar, L2.tC, L2.tCons, L2.tNil, L2.tCB, L2.tOp, L2.tUn, L2.tTup, L2.tLst, L2.tB, L2.tOr, L2.tAnd, L2.tNot, L2.tAndV, L2.tOrV, L2.tNotV, L2.tIf, L2.tTest, L2.tChain, L2.rI, L2.rI0, L2.rU, L2.tDrop, L2.tNever, L2.tCall, L2.tMeth, L2.tMake, L2.rGcd, L2.tFld, L2.sFld, L2.sFldAug, Mx.sFldA, Mx.sFldAugA, L2.rAdd, L2.rSub, L2.rEq, L2.rNe, L2.tDGet, L2.tDIn, L2.tDNotIn, L2.sDPut,
  Mx.isi_int_bool, Mx.isi_int_int, Mx.isi_int_tuple, Mx.isi_int_list, Mx.isi_int_str, Mx.scal_int, Mx.scal_str, Mx.scal_bl, Mx.ofString_inj, Mx.ofString_beq, Mx.lk_cons, Mx.pf_nil, Mx.pf_cons, Mx.sz1, Mx.sz2, List.lookup_nil, String.reduceEq, decide_true, decide_false, decide_eq_true_eq, Int.natAbs_natCast, L2.upd_same, L2.upd_upd, L2.cxOf, L2.gSub, *])

section
variable {P : Program} {w : World} {K : PySem.W.Frag} {mg : Str → Option Value} {base : Heap}
theorem sc_law_taken : FnScope ["_law_row", "_law_many", "_law_cell"] ["_law_row", "_law_many"] (defScope s_law_taken) := ⟨rfl, rfl, rfl, by decide +kernel, rfl, by decide +kernel, by decide +kernel⟩
theorem ok_law_taken {f : Addr} {fd : FuncData} (F : Fun K "_law_taken" "_law_taken" s_law_taken f fd) (B : Blt mg) : FnOk P w K mg base CX0 1 f fd ["_law_row", "_law_many"] (sp_taken K) := by
  refine F.ok sc_law_taken (fun vs H Q E h => ?_) (fun cdv A outer s H vs Q E hr h => ?_)
  · obtain ⟨r, sc, ns, many, rfl, _⟩ := h
    rfl
  · obtain ⟨r, sc, ns, many, rfl, ⟨pos, mix, p0, m0, m1, hR, hS, hn⟩, h1, k⟩ := h
    refine ⟨_, pss_cons (ps_asg (pe_op op_add (pe_ix ix_list (pv 0) pe_int (fun _ _ => rfl)) pe_int) (pg_sub (pv 0) pe_int set_list))
      (pss_cons (ps_if (pt_cmpR op_gt (pe_ix ix_list (pv 0) pe_int (fun _ _ => rfl)) (pe_callB call_len_seq (by rfl) B.len PySem.boot_len (pa_cons (pe_ix ix_list (pv 0) pe_int (fun _ _ => rfl)) pa_nil)) (nomark _))
        (pss_cons (ps_asg (pe_op op_mod (pe_op op_add (pe_op op_mul (pe_ix ix_list (pv 0) pe_int (fun _ _ => rfl)) pe_int) pe_int) pe_int) (pg_sub (pv 0) pe_int set_list))
          (pss_one (ps_ret (pe_op op_mod (pe_op op_fdiv (pe_ix ix_list (pv 0) pe_int (fun _ _ => rfl)) pe_int) (pv 1))))) pss_nil)
      (pss_cons (ps_set (i := 2) sc_law_taken.nd rfl (.inl rfl) (pe_ix ix_list (pe_ix ix_list (pv 0) pe_int (fun _ _ => rfl)) (pe_op op_sub (pe_ix ix_list (pv 0) pe_int (fun _ _ => rfl)) pe_int) (fun _ _ => rfl)))
      (pss_cons (ps_asg (pe_op op_mod (pe_op op_add (pe_op op_add (pe_op op_mul (pe_ix ix_list (pv 0) pe_int (fun _ _ => rfl)) pe_int) (pv 2)) pe_int) pe_int) (pg_sub (pv 0) pe_int set_list))
      (pss_one (ps_ret (pe_op op_mod (pv 2) (pv 1)))))))
      , ?_⟩
    walk_at "rd"
    refine ixL (.inl (.inl hR)) at3_1 ?_
    walk_at "rd"
    refine setL hR (j := 1) rfl fun H1 g1 s1 => ?_
    have hS1 := seq_or hS s1 hn
    refine ixL (.inl (.inl g1)) at3_1 (ixL (.inl (.inl g1)) at3_0 ?_)
    walk_at "rd"
    refine ⟨_, .inl hS1, ?_⟩
    by_cases hp : pos + 1 > (((ns.map V.int).length : Nat) : Int)
    · walk_at "rd"
      rw [if_pos hp]
      refine ixL (.inl (.inl g1)) at3_2 ?_
      walk_at "rd"
      refine ⟨.inl ⟨by omega, by omega⟩, by decide, ?_⟩
      refine setL g1 (j := 2) rfl fun H2 g2 s2 => ?_
      refine ixL (.inl (.inl g2)) at3_2 ?_
      walk_at "rd"
      have e0 := Int.emod_nonneg (mix * 48271 + 11) (show (2147483647 : Int) ≠ 0 by decide)
      have e1 := Int.emod_lt_of_pos (mix * 48271 + 11) (show (0 : Int) < 2147483647 by decide)
      refine ⟨⟨by decide, by decide⟩, by omega, ?_⟩
      exact k _ H2 (Int.emod_nonneg _ (by omega)) (Int.emod_lt_of_pos _ (by omega)) ⟨pos + 1, _, by omega, e0, e1, g2, seq_or hS1 s2 hn, hn⟩ ((s1.trans s2).sub (by simp))
    · walk_at "rd"
      rw [if_neg hp]
      rw [List.length_map] at hp
      obtain ⟨n, _, hat⟩ := at_nat (ns := ns) (i := pos) p0 (by omega)
      refine ixL (.inl (.inl g1)) at3_0 (ixL (.inl (.inl g1)) at3_1 ?_)
      walk_at "rd"
      refine ixL hS1 (i := pos + 1 - 1) (by rw [show pos + 1 - 1 = pos by omega]; exact hat) ?_
      refine ixL (.inl (.inl g1)) at3_2 ?_
      walk_at "rd"
      refine ⟨.inl ⟨by omega, by omega⟩, by decide, ?_⟩
      refine setL g1 (j := 2) rfl fun H2 g2 s2 => ?_
      walk_at "rd"
      have e0 := Int.emod_nonneg (mix * 48271 + n + 11) (show (2147483647 : Int) ≠ 0 by decide)
      have e1 := Int.emod_lt_of_pos (mix * 48271 + n + 11) (show (0 : Int) < 2147483647 by decide)
      refine ⟨by omega, ?_⟩
      exact k _ H2 (Int.emod_nonneg _ (by omega)) (Int.emod_lt_of_pos _ (by omega)) ⟨pos + 1, _, by omega, e0, e1, g2, seq_or hS1 s2 hn, hn⟩ ((s1.trans s2).sub (by simp))
end
end Mx

namespace Mx
open PySem L2
set_option hygiene false in
local macro_rules | `(tactic| walk_at "rd") => `(tactic| try simp only [L2.start, List.map_cons, List.map_nil, List.length_cons, List.length_nil, Nat.reduceAdd, Nat.reduceSub, Nat.reduceLT, Nat.reduceLeDiff, List.replicate_succ, List.replicate_zero, List.append_nil, List.nil_append, List.cons_append, List.set_cons_zero, List.set_cons_succ, List.getElem?_cons_zero, List.getElem?_cons_succ,
  Option.some.injEq, List.cons.injEq, and_true, true_and, and_assoc, reduceCtorEq, L2.V.int.injEq, L2.V.ref.injEq, L2.V.bl.injEq, L2.V.str.injEq, L2.V.ty.injEq, L2.HO.ins.injEq, L2.HO.lst.injEq, L2.HO.tup.injEq, L2.HO.dK.injEq, exists_eq_left', exists_eq_left, exists_eq_right, exists_eq', exists_eq, exists_and_left, exists_and_right, reduceIte, Bool.false_eq_true, Bool.not_true, Bool.not_false,
  L2.tSeq, L2.tIfS, L2.tRet, L2.tRetN, L2.tNext, L2.tAsg, L2.gName, L2.tVar, L2.tC, L2.tCons, L2.tNil, L2.tCB, L2.tOp, L2.tUn, L2.tTup, L2.tLst, L2.tB, L2.tOr, L2.tAnd, L2.tNot, L2.tAndV, L2.tOrV, L2.tNotV, L2.tIf, L2.tTest, L2.tChain, L2.rI, L2.rI0, L2.rU, L2.tDrop, L2.tNever, L2.tCall, L2.tMeth, L2.tMake, L2.rGcd, L2.tFld, L2.sFld, L2.sFldAug, Mx.sFldA, Mx.sFldAugA, L2.rAdd, L2.rSub, L2.rEq, L2.rNe, L2.tDGet, L2.tDIn, L2.tDNotIn, L2.sDPut,
  Mx.isi_int_bool, Mx.isi_int_int, Mx.isi_int_tuple, Mx.isi_int_list, Mx.isi_int_str, Mx.scal_int, Mx.scal_str, Mx.scal_bl, Mx.ofString_inj, Mx.ofString_beq, Mx.lk_cons, Mx.pf_nil, Mx.pf_cons, Mx.sz1, Mx.sz2, List.lookup_nil, String.reduceEq, decide_true, decide_false, decide_eq_true_eq, Int.natAbs_natCast, L2.upd_same, L2.upd_upd, L2.cxOf, L2.gSub])
set_option hygiene false in
local macro_rules | `(tactic| walk_at "rds") => `(tactic| try simp only [L2.start, List.map_cons, List.map_nil, List.length_cons, List.length_nil, Nat.reduceAdd, Nat.reduceSub, Nat.reduceLT, Nat.reduceLeDiff, List.replicate_succ, List.replicate_zero, List.append_nil, List.nil_append, List.cons_append, List.set_cons_zero, List.set_cons_succ, List.getElem?_cons_zero, List.getElem?_cons_succ,
  Option.some.injEq, List.cons.injEq, and_true, true_and, and_assoc, reduceCtorEq, L2.V.int.injEq, L2.V.ref.injEq, L2.V.bl.injEq, L2.V.str.injEq, L2.V.ty.injEq, L2.HO.ins.injEq, L2.HO.lst.injEq, L2.HO.tup.injEq, L2.HO.dK.injEq, exists_eq_left', exists_eq_left, exists_eq_right, exists_eq', exists_eq, exists_and_left, exists_and_right, reduceIte, Bool.false_eq_true, Bool.not_true, Bool.not_false,
  L2.tSeq, L2.tIfS, L2.tRet, L2.tRetN, L2.tNext, L2.tAsg, L2.gName, L2.tVar, L2.tC, L2.tCons, L2.tNil, L2.tCB, L2.tOp, L2.tUn, L2.tTup, L2.tLst, L2.tB, L2.tOr, L2.tAnd, L2.tNot, L2.tAndV, L2.tOrV, L2.tNotV, L2.tIf, L2.tTest, L2.tChain, L2.rI, L2.rI0, L2.rU, L2.tDrop, L2.tNever, L2.tCall, L2.tMeth, L2.tMake, L2.rGcd, L2.tFld, L2.sFld, L2.sFldAug, Mx.sFldA, Mx.sFldAugA, L2.rAdd, L2.rSub, L2.rEq, L2.rNe, L2.tDGet, L2.tDIn, L2.tDNotIn, L2.sDPut,
  Mx.isi_int_bool, Mx.isi_int_int, Mx.isi_int_tuple, Mx.isi_int_list, Mx.isi_int_str, Mx.scal_int, Mx.scal_str, Mx.scal_bl, Mx.ofString_inj, Mx.ofString_beq, Mx.lk_cons, Mx.pf_nil, Mx.pf_cons, Mx.sz1, Mx.sz2, List.lookup_nil, String.reduceEq, decide_true, decide_false, decide_eq_true_eq, Int.natAbs_natCast, L2.upd_same, L2.upd_upd, L2.cxOf, L2.gSub, *])

section
variable {P : Program} {w : World} {K : PySem.W.Frag} {mg : Str → Option Value} {base : Heap}
/-! ### a fraction in lowest terms, by taking rests -/
/-! ### numbers, paces, loudness -/
def sp_drawn (K : PySem.W.Frag) (lo hi : Int) : Sp := fun vs H Q _ => ∃ (r sc : Addr) (ns : List Int), vs = [.ref r] ∧ RowAt K H r sc ns ∧ ∀ v H', lo ≤ v → v ≤ hi → RowAt K H' r sc ns → Stp [r] H H' → Q (.int v) H'
theorem row_new {H : Hp} {r sc p : Addr} {ns : List Int} {o : HO} (h : RowAt K H r sc ns) (hp : H p = none) : RowAt K (upd H p o) r sc ns := h.st0 (Stp.new hp)
theorem sc_law_number : FnScope ["_law_row"] ["_law_row"] (defScope s_law_number) := ⟨rfl, rfl, rfl, by decide +kernel, rfl, by decide +kernel, by decide +kernel⟩
theorem ok_law_number {f : Addr} {fd : FuncData} (F : Fun K "_law_number" "_law_number" s_law_number f fd) (G : OwnF P w K mg base "_law_taken" 1 ["_law_row", "_law_many"] (sp_taken K)) : FnOk P w K mg base CX0 2 f fd ["_law_row"] (sp_drawn K (-999) 999) := by
  refine F.ok sc_law_number (fun vs H Q E h => ?_) (fun cdv A outer s H vs Q E hr h => ?_)
  · obtain ⟨r, sc, ns, rfl, _⟩ := h
    rfl
  · obtain ⟨r, sc, ns, rfl, hR, k⟩ := h
    refine ⟨_, pss_one (ps_ret (pe_ix ix_list (pe_lst (pa_cons (pe_op op_sub (p_call G hr (pa_cons (pv 0) (pa_cons pe_int pa_nil))) pe_int) (pa_cons (pe_op op_sub (p_call G hr (pa_cons (pv 0) (pa_cons pe_int pa_nil))) pe_int) pa_nil))) (p_call G hr (pa_cons (pv 0) (pa_cons pe_int pa_nil))) (fun _ _ => rfl))), ?_⟩
    walk_at "rd"
    refine ⟨r, sc, ns, 19, rfl, hR, by decide, fun a H1 a0 a1 hR1 s1 => ?_⟩
    walk_at "rd"
    refine ⟨r, sc, ns, 1999, rfl, hR1, by decide, fun b H2 b0 b1 hR2 s2 => ?_⟩
    walk_at "rd"
    intro p hp
    have s3 := Stp.new (o := .lst [.int (a - 9), .int (b - 999)]) hp
    refine ⟨r, sc, ns, 2, rfl, row_new hR2 hp, by decide, fun c H4 c0 c1 hR4 s4 => ?_⟩
    have hpr : p ≠ r := by
      obtain ⟨_, _, _, _, _, hr2, _⟩ := hR2
      exact (ne_of_none hr2 hp).symm
    have hl := s4.keep _ _ (upd_same (H := H2) (a := p) (o := .lst [.int (a - 9), .int (b - 999)])) (by simpa using hpr)
    have t4 := ((s1.trans s2).trans (s3.trans s4)).sub (G := [r]) (by simp)
    have hc : c = 0 ∨ c = 1 := by omega
    rcases hc with rfl | rfl
    · exact ixL (.inl (.inl hl)) (x := .int (a - 9)) rfl (k _ H4 (by omega) (by omega) hR4 t4)
    · exact ixL (.inl (.inl hl)) (x := .int (b - 999)) rfl (k _ H4 (by omega) (by omega) hR4 t4)
end
end Mx

namespace Mx
open PySem L2
set_option hygiene false in
local macro_rules | `(tactic| walk_at "rd") => `(tactic| try simp only [L2.start, List.map_cons, List.map_nil, List.length_cons, List.length_nil, Nat.reduceAdd, Nat.reduceSub, Nat.reduceLT, Nat.reduceLeDiff, List.replicate_succ, List.replicate_zero, List.append_nil, List.nil_append, List.cons_append, List.set_cons_zero, List.set_cons_succ, List.getElem?_cons_zero, List.getElem?_cons_succ,
  Option.some.injEq, List.cons.injEq, and_true, true_and, and_assoc, reduceCtorEq, L2.V.int.injEq, L2.V.ref.injEq, L2.V.bl.injEq, L2.V.str.injEq, L2.V.ty.injEq, L2.HO.ins.injEq, L2.HO.lst.injEq, L2.HO.tup.injEq, L2.HO.dK.injEq, exists_eq_left', exists_eq_left, exists_eq_right, exists_eq', exists_eq, exists_and_left, exists_and_right, reduceIte, Bool.false_eq_true, Bool.not_true, Bool.not_false,
  L2.tSeq, L2.tIfS, L2.tRet, L2.tRetN, L2.tNext, L2.tAsg, L2.gName, L2.tVar, L2.tC, L2.tCons, L2.tNil, L2.tCB, L2.tOp, L2.tUn, L2.tTup, L2.tLst, L2.tB, L2.tOr, L2.tAnd, L2.tNot, L2.tAndV, L2.tOrV, L2.tNotV, L2.tIf, L2.tTest, L2.tChain, L2.rI, L2.rI0, L2.rU, L2.tDrop, L2.tNever, L2.tCall, L2.tMeth, L2.tMake, L2.rGcd, L2.tFld, L2.sFld, L2.sFldAug, Mx.sFldA, Mx.sFldAugA, L2.rAdd, L2.rSub, L2.rEq, L2.rNe, L2.tDGet, L2.tDIn, L2.tDNotIn, L2.sDPut,
  Mx.isi_int_bool, Mx.isi_int_int, Mx.isi_int_tuple, Mx.isi_int_list, Mx.isi_int_str, Mx.scal_int, Mx.scal_str, Mx.scal_bl, Mx.ofString_inj, Mx.ofString_beq, Mx.lk_cons, Mx.pf_nil, Mx.pf_cons, Mx.sz1, Mx.sz2, List.lookup_nil, String.reduceEq, decide_true, decide_false, decide_eq_true_eq, Int.natAbs_natCast, L2.upd_same, L2.upd_upd, L2.cxOf, L2.gSub])
set_option hygiene false in
local macro_rules | `(tactic| walk_at "rds") => `(tactic| try simp only [L2.start, List.map_cons, List.map_nil, List.length_cons, List.length_nil, Nat.reduceAdd, Nat.reduceSub, Nat.reduceLT, Nat.reduceLeDiff, List.replicate_succ, List.replicate_zero, List.append_nil, List.nil_append, List.cons_append, List.set_cons_zero, List.set_cons_succ, List.getElem?_cons_zero, List.getElem?_cons_succ,
  Option.some.injEq, List.cons.injEq, and_true, true_and, and_assoc, reduceCtorEq, L2.V.int.injEq, L2.V.ref.injEq, L2.V.bl.injEq, L2.V.str.injEq, L2.V.ty.injEq, L2.HO.ins.injEq, L2.HO.lst.injEq, L2.HO.tup.injEq, L2.HO.dK.injEq, exists_eq_left', exists_eq_left, exists_eq_right, exists_eq', exists_eq, exists_and_left, exists_and_right, reduceIte, Bool.false_eq_true, Bool.not_true, Bool.not_false,
  L2.tSeq, L2.tIfS, L2.tRet, L2.tRetN, L2.tNext, L2.tAsg, L2.gName, L2.tVar, L2.tC, L2.tCons, L2.tNil, L2.tCB, L2.tOp, L2.tUn, L2.tTup, L2.tLst, L2.tB, L2.tOr, L2.tAnd, L2.tNot, L2.tAndV, L2.tOrV, L2.tNotV, L2.tIf, L2.tTest, L2.tChain, L2.rI, L2.rI0, L2.rU, L2.tDrop, L2.tNever, L2.tCall, L2.tMeth, L2.tMake, L2.rGcd, L2.tFld, L2.sFld, L2.sFldAug, Mx.sFldA, Mx.sFldAugA, L2.rAdd, L2.rSub, L2.rEq, L2.rNe, L2.tDGet, L2.tDIn, L2.tDNotIn, L2.sDPut,
  Mx.isi_int_bool, Mx.isi_int_int, Mx.isi_int_tuple, Mx.isi_int_list, Mx.isi_int_str, Mx.scal_int, Mx.scal_str, Mx.scal_bl, Mx.ofString_inj, Mx.ofString_beq, Mx.lk_cons, Mx.pf_nil, Mx.pf_cons, Mx.sz1, Mx.sz2, List.lookup_nil, String.reduceEq, decide_true, decide_false, decide_eq_true_eq, Int.natAbs_natCast, L2.upd_same, L2.upd_upd, L2.cxOf, L2.gSub, *])

section
variable {P : Program} {w : World} {K : PySem.W.Frag} {mg : Str → Option Value} {base : Heap}
theorem row_ne {H : Hp} {r sc p : Addr} {ns : List Int} (h : RowAt K H r sc ns) (hp : H p = none) : p ≠ r := by
  obtain ⟨_, _, _, _, _, hr2, _⟩ := h
  exact (ne_of_none hr2 hp).symm
def sp_law_pace (K : PySem.W.Frag) : Sp := fun vs H Q _ => ∃ (r sc : Addr) (ns : List Int), vs = [.ref r] ∧ RowAt K H r sc ns ∧ ∀ p H' pn pb, H p = none → 1 ≤ pn → pn ≤ 8 → 1 ≤ pb → pb ≤ 8 → RowAt K H' r sc ns → Stp [r] H H' → H' p = some (.tup [.int pn, .int pb]) → Q (.ref p) H'
theorem sc_law_pace : FnScope ["_law_row"] ["_law_row"] (defScope s_law_pace) := ⟨rfl, rfl, rfl, by decide +kernel, rfl, by decide +kernel, by decide +kernel⟩
theorem ok_law_pace {f : Addr} {fd : FuncData} (F : Fun K "_law_pace" "_law_pace" s_law_pace f fd) (G : OwnF P w K mg base "_law_taken" 1 ["_law_row", "_law_many"] (sp_taken K)) : FnOk P w K mg base CX0 2 f fd ["_law_row"] (sp_law_pace K) := by
  refine F.ok sc_law_pace (fun vs H Q E h => ?_) (fun cdv A outer s H vs Q E hr h => ?_)
  · obtain ⟨r, sc, ns, rfl, _⟩ := h
    rfl
  · obtain ⟨r, sc, ns, rfl, hR, k⟩ := h
    refine ⟨_, pss_one (ps_ret (pe_tup (pa_cons (pe_op op_add pe_int (p_call G hr (pa_cons (pv 0) (pa_cons (pe_ix ix_list (pe_lst (pa_cons pe_int (pa_cons pe_int pa_nil))) (p_call G hr (pa_cons (pv 0) (pa_cons pe_int pa_nil))) (fun _ _ => rfl)) pa_nil))))
      (pa_cons (pe_op op_add pe_int (p_call G hr (pa_cons (pv 0) (pa_cons (pe_ix ix_list (pe_lst (pa_cons pe_int (pa_cons pe_int pa_nil))) (p_call G hr (pa_cons (pv 0) (pa_cons pe_int pa_nil))) (fun _ _ => rfl)) pa_nil)))) pa_nil)))), ?_⟩
    walk_at "rd"
    intro p1 hp1
    have s1 := Stp.new (o := .lst [.int 2, .int 8]) hp1
    have hn1 := row_ne hR hp1
    refine ⟨r, sc, ns, 2, rfl, row_new hR hp1, by decide, fun c H2 c0 c1 hR2 s2 => ?_⟩
    have hl1 := s2.keep _ _ (upd_same (H := H) (a := p1) (o := .lst [.int 2, .int 8])) (by simpa using hn1)
    have hx : ∃ x : Int, 2 ≤ x ∧ x ≤ 8 ∧ atI [V.int 2, V.int 8] c = some (.int x) := by
      have hc : c = 0 ∨ c = 1 := by omega
      rcases hc with rfl | rfl
      · exact ⟨2, by decide, by decide, rfl⟩
      · exact ⟨8, by decide, by decide, rfl⟩
    obtain ⟨x, x0, x1, hx⟩ := hx
    refine ixL (.inl (.inl hl1)) hx ?_
    refine ⟨r, sc, ns, x, rfl, hR2, by omega, fun a H3 a0 a1 hR3 s3 => ?_⟩
    have t3 := ((s1.trans s2).trans s3).sub (G := [r]) (by simp)
    walk_at "rd"
    intro p4 hp4
    have s4 := Stp.new (o := .lst [.int 3, .int 8]) hp4
    have hn4 := row_ne hR3 hp4
    refine ⟨r, sc, ns, 2, rfl, row_new hR3 hp4, by decide, fun c2 H5 c20 c21 hR5 s5 => ?_⟩
    have hl4 := s5.keep _ _ (upd_same (H := H3) (a := p4) (o := .lst [.int 3, .int 8])) (by simpa using hn4)
    have hy : ∃ x : Int, 3 ≤ x ∧ x ≤ 8 ∧ atI [V.int 3, V.int 8] c2 = some (.int x) := by
      have hc : c2 = 0 ∨ c2 = 1 := by omega
      rcases hc with rfl | rfl
      · exact ⟨3, by decide, by decide, rfl⟩
      · exact ⟨8, by decide, by decide, rfl⟩
    obtain ⟨y, y0, y1, hy⟩ := hy
    refine ixL (.inl (.inl hl4)) hy ?_
    refine ⟨r, sc, ns, y, rfl, hR5, by omega, fun b H6 b0 b1 hR6 s6 => ?_⟩
    have t6 := ((t3.trans s4).trans (s5.trans s6)).sub (G := [r]) (by simp)
    walk_at "rd"
    intro p hp
    have hpn := row_ne hR6 hp
    exact k p _ (1 + a) (1 + b) (t6.free hp (by simpa using hpn)) (by omega) (by omega) (by omega) (by omega) (row_new hR6 hp) ((t6.trans (Stp.new hp)).sub (by simp)) upd_same
/-! ### the same, and of the same kinds -/
def sp_alike_int : Sp := fun vs H Q _ => ∃ (a b : Int), vs = [.int a, .int b] ∧ Q (.bl (decide (a = b))) H
theorem sc_law_alike : FnScope ["_law_found", "_law_due", "_law_k"] ["_law_found", "_law_due"] (defScope s_law_alike) := ⟨rfl, rfl, rfl, by decide +kernel, rfl, by decide +kernel, by decide +kernel⟩
theorem ok_alike_int {f : Addr} {fd : FuncData} (F : Fun K "_law_alike" "_law_alike" s_law_alike f fd) (B : Blt mg) : FnOk P w K mg base CX0 1 f fd ["_law_found", "_law_due"] sp_alike_int := by
  refine F.ok sc_law_alike (fun vs H Q E h => ?_) (fun cdv A outer s H vs Q E hr h => ?_)
  · obtain ⟨a, b, rfl, _⟩ := h
    rfl
  · obtain ⟨a, b, rfl, k⟩ := h
    refine ⟨_, pss_cons (ps_if (PW.pt (pw_or (pt_val (b_isi B (pv 1) B.tuple PyProof.Rows.boot_tuple)) (pw_or1 (pt_val (b_isi B (pv 1) B.list PyProof.Rows.boot_list))))) pss_never pss_nil)
      (pss_cons (ps_if (PW.pt (pw_or (pt_cmpR op_isN (pv 1) pe_non (nomark _)) (pw_or1 (pt_cmpR op_isN (pv 0) pe_non (nomark _))))) pss_never pss_nil)
      (pss_cons (ps_if (PW.pt (pw_or (pt_val (b_isi B (pv 1) B.bool PyProof.Rows.boot_bool)) (pw_or1 (pt_val (b_isi B (pv 0) B.bool PyProof.Rows.boot_bool))))) pss_never pss_nil)
      (pss_cons (ps_if (pt_val (b_isi B (pv 1) B.str PyProof.Rows.boot_str)) pss_never pss_nil)
      (pss_one (ps_ret (pe_and (b_isi B (pv 0) B.int PyProof.Rows.boot_int) (pe_one (pe_cmpR op_eq (pv 0) (pv 1) (nomark _))))))))), ?_⟩
    walk_at "rd"
    exact k
def sp_alike_tup (K : PySem.W.Frag) : Sp := fun vs H Q _ => ∃ (a b : Addr) (xs ys : List Int), vs = [.ref a, .ref b] ∧ TupAt K H a (xs.map V.int) ∧ TupAt K H b (ys.map V.int) ∧ xs.length = ys.length ∧ ys.length ≤ 60 ∧ ∀ H', Stp [] H H' → Q (.bl (decide (xs = ys))) H'
theorem tyx_tup {H : Hp} {a : Addr} {xs : List V} (h : TupAt K H a xs) : TyX K H (.ref a) (.type "tuple") := by
  rcases h with h | h
  · exact .base (.tup h)
  · rcases h (fun _ => none) with (q | ⟨o, q⟩) | ⟨o, its, n, h1, h2, _⟩
    · cases q
    · cases q
    · exact .kTuple h1 h2
theorem isi_tupA {H : Hp} {Q : VK} {a : Addr} {xs : List V} {T : String} {b : Bool} (h : TupAt K H a xs) (hb : kitB "tuple" T = some b) (q : Q (.bl b) H) : rIsi K [.ref a, .ty T] H Q := ⟨_, _, _, _, _, rfl, .ty _, tyx_tup h, kit_ty hb, q⟩
theorem dp_ints {H : Hp} : ∀ (ns : List Int), DpAll K H (ns.map V.int) (ns.map PyData.int)
  | [] => .nil
  | n :: r => .cons (.int n) (dp_ints r)
theorem eqv_nil (ns : List Int) : PyData.eqv (.list (ns.map PyData.int)) (.list []) = ns.isEmpty := by
  cases ns with
  | nil => rfl
  | cons n r => rfl
def diffs (xs ys : List Int) (i : Nat) : List Int := ((List.range i).filter fun j => decide (xs[j]? ≠ ys[j]?)).map fun j => ((j : Nat) : Int)
theorem diffs_succ (xs ys : List Int) (i : Nat) : diffs xs ys (i + 1) = diffs xs ys i ++ (if xs[i]? ≠ ys[i]? then [(i : Int)] else []) := by
  unfold diffs
  rw [List.range_succ, List.filter_append, List.map_append]
  congr 1
  by_cases h : xs[i]? ≠ ys[i]?
  · rw [if_pos h, List.filter_cons_of_pos (by simpa using h)]
    rfl
  · rw [if_neg h, List.filter_cons_of_neg (by simpa using h)]
    rfl
theorem diffs_len (xs ys : List Int) (i : Nat) : (diffs xs ys i).length ≤ i := by
  unfold diffs
  rw [List.length_map]
  refine Nat.le_trans (List.length_filter_le _ _) ?_
  rw [List.length_range]
  exact Nat.le_refl _
theorem diffs_nil {xs ys : List Int} (h : xs.length = ys.length) : (diffs xs ys ys.length).isEmpty = decide (xs = ys) := by
  by_cases e : xs = ys
  · subst e
    simp [diffs]
  · rw [decide_eq_false e]
    unfold diffs
    cases q : ((List.range ys.length).filter fun j => decide (xs[j]? ≠ ys[j]?)) with
    | cons a r => rfl
    | nil =>
      exfalso
      apply e
      apply List.ext_getElem? 
      intro j
      by_cases hj : j < ys.length
      · have := List.filter_eq_nil_iff.mp q j (List.mem_range.mpr hj)
        simpa using this
      · rw [List.getElem?_eq_none (by omega), List.getElem?_eq_none (by omega)]
theorem ok_alike_tup {f : Addr} {fd : FuncData} (F : Fun K "_law_alike" "_law_alike" s_law_alike f fd) (B : Blt mg) (G : OwnF P w K mg base "_law_alike" 1 ["_law_found", "_law_due"] sp_alike_int) : FnOk P w K mg base CX0 2 f fd ["_law_found", "_law_due"] (sp_alike_tup K) := by
  refine F.ok sc_law_alike (fun vs H Q E h => ?_) (fun cdv A outer s H vs Q E hr h => ?_)
  · obtain ⟨a, b, xs, ys, rfl, _⟩ := h
    rfl
  · obtain ⟨a, b, xs, ys, rfl, ha, hb, hl, hlen, k⟩ := h
    have hu := hu_of hr
    have hu64 : (A.deeper (PyProof.Rows.envOfC "_law_alike" (defScope s_law_alike) s.heap.objs.size f cdv)).units + 64 < cLine := by
      have := hr.un
      omega
    refine ⟨_, pss_cons (ps_if (PW.pt (pw_or (pt_val (b_isi B (pv 1) B.tuple PyProof.Rows.boot_tuple)) (pw_or1 (pt_val (b_isi B (pv 1) B.list PyProof.Rows.boot_list)))))
        (pss_cons (ps_if (PW.pt (pw_or (pt_cmpR op_ne (b_isi B (pv 0) B.tuple PyProof.Rows.boot_tuple) (b_isi B (pv 1) B.tuple PyProof.Rows.boot_tuple) (nomark _)) (pw_or1 (pt_not (pt_val (pe_callB call_isiT (by rfl) B.isi PyProof.Rows.boot_isinstance (pa_cons (pv 0) (pa_cons (pe_tup (pa_cons (pe_bltn (v := .ty "tuple") (by rfl) B.tuple PyProof.Rows.boot_tuple rfl) (pa_cons (pe_bltn (v := .ty "list") (by rfl) B.list PyProof.Rows.boot_list rfl) pa_nil))) pa_nil)))))))) pss_never pss_nil)
        (pss_cons (ps_if (pt_cmpR op_ne (pe_callB call_len_seq (by rfl) B.len PySem.boot_len (pa_cons (pv 0) pa_nil)) (pe_callB call_len_seq (by rfl) B.len PySem.boot_len (pa_cons (pv 1) pa_nil)) (nomark _)) pss_never pss_nil)
        (pss_one (ps_ret (pe_cmpR (op_eqD hu64) (pe_lc (own := [("_law_k", 2)]) (te := tVar 2) (tt := tNot (tB (tCall sp_alike_int [] E0 (tCons (tOp (rIxT K) (tVar 0) (tVar 2)) (tCons (tOp (rIxT K) (tVar 1) (tVar 2)) tNil)))))
            rfl sc_law_alike.nd (pi_range1 (by rfl) B.range (pa_cons (pe_callB call_len_seq (by rfl) B.len PySem.boot_len (pa_cons (pv 1) pa_nil)) pa_nil)) (blkOk_by (N := ["_law_found", "_law_due", "_law_k"]) (sc := defScope s_law_alike) (by decide +kernel))
            (fun _ _ _ _ _ => pg_name (i := 2) sc_law_alike.nd rfl (.inl rfl)) (fun _ _ _ _ _ => pts_one (pt_not (pt_val (p_call G hr (pa_cons (pe_ix ix_tup (pv 0) (pv 2) (fun _ _ => rfl)) (pa_cons (pe_ix ix_tup (pv 1) (pv 2) (fun _ _ => rfl)) pa_nil)))))) (fun _ _ _ _ _ => pv 2)) (pe_lst pa_nil) (nomark _)))))) pss_nil)
      pss_never, ?_⟩
    walk_at "rd"
    refine isi_tupA hb (b := true) (by decide +kernel) ?_
    walk_at "rd"
    refine isi_tupA ha (b := true) (by decide +kernel) (isi_tupA hb (b := true) (by decide +kernel) ?_)
    walk_at "rd"
    intro T hT
    have s1 := Stp.new (o := .tup [.ty "tuple", .ty "list"]) hT
    refine ⟨.ref a, T, _, _, _, true, rfl, upd_same, .cons (.ty _) (.cons (.ty _) .nil), tyx_tup (ha.st s1), kitAny_cons (b := true) (kit_ty (by decide +kernel)) (fun z => nomatch z) (fun _ => rfl), ?_⟩
    have ha1 := ha.st s1
    have hb1 := hb.st s1
    generalize upd H T (.tup [.ty "tuple", .ty "list"]) = H1 at *
    walk_at "rd"
    refine ⟨_, .inr ha1.sq, _, .inr hb1.sq, ?_⟩
    walk_at "rd"
    rw [decide_eq_true (show (((xs.map V.int).length : Nat) : Int) = (((ys.map V.int).length : Nat) : Int) by rw [List.length_map, List.length_map, hl])]
    refine iteF ?_
    have hn : (((ys.map V.int).length : Nat) : Int).toNat = ys.length := by rw [List.length_map]; omega
    have hn2 : (((ys.map V.int).length : Nat) : Int) ≤ 60 := by rw [List.length_map]; omega
    refine ⟨_, rfl, b, rfl, _, .inr hb1.sq, _, rfl, by omega, by omega, ?_⟩
    rw [hn]
    intro D hD
    refine lc_range (lo := 0) (n := ys.length) (fun i H' => Stp [] H1 H' ∧ H' D = some (.lst ((diffs xs ys i).map V.int))) ⟨Stp.new hD, upd_same⟩ (fun i H' hi h => ?_) (fun H' h => ?_)
    · obtain ⟨s2, hl2⟩ := h
      have ha2 := ha1.st s2
      have hb2 := hb1.st s2
      have hx : xs[i]? = some (xs[i]'(by omega)) := List.getElem?_eq_getElem _
      have hy : ys[i]? = some (ys[i]'hi) := List.getElem?_eq_getElem _
      have atx : ∀ (zs : List Int) (hz : i < zs.length), atI (zs.map V.int) (0 + (i : Int)) = some (.int (zs[i]'hz)) := by
        intro zs hz
        unfold atI ixN
        rw [if_pos (by omega), List.length_map, if_pos (by omega)]
        show (zs.map V.int)[(0 + (i : Int)).toNat]? = _
        rw [show (0 + (i : Int)).toNat = i by omega, List.getElem?_map, List.getElem?_eq_getElem hz]
        rfl
      refine ⟨wipe1, ⟨_, rfl, _, rfl, a, _, _, _, rfl, rfl, ha2.sq, atx xs (by omega), _, rfl, _, rfl, b, _, _, _, rfl, rfl, hb2.sq, atx ys hi, _, _, rfl, _, rfl, ?_⟩⟩
      have hds := diffs_succ xs ys i
      rw [hx, hy] at hds
      by_cases e : xs[i]'(by omega) = ys[i]'hi
      · rw [decide_eq_true e]
        rw [if_neg (by rw [e]; simp), List.append_nil] at hds
        refine iteF ?_
        rw [hds]
        exact ⟨s2, hl2⟩
      · rw [decide_eq_false e]
        rw [if_pos (by simpa using e)] at hds
        refine iteT ⟨_, rfl, _, hl2, ?_, ?_, ?_⟩
        · rw [List.length_map]
          have := diffs_len xs ys i
          exact Nat.lt_of_le_of_lt (show _ ≤ 100 by omega) (by decide)
        · exact stp_acc s2 hD (by rw [hl2]; intro ys z; cases z)
        · rw [upd_same, hds, List.map_append]
          congr 3
          show V.int (0 + (i : Int)) :: [] = _
          rw [Int.zero_add]
          rfl
    · obtain ⟨s2, hl2⟩ := h
      refine ⟨Nat.zero_le _, fun p hp => ?_⟩
      have s3 := Stp.new (o := .lst []) hp
      refine ⟨_, _, .lst (.inl (.inl (s3.keep _ _ hl2 (by simp)))) (dp_ints _), .lst (.inl (.inl upd_same)) .nil, ?_, rfl, ?_⟩
      · exact PySem.W.ke_shaped_ints _
      · rw [eqv_nil, diffs_nil hl]
        exact k _ (s1.trans (s2.trans s3))
end
end Mx

namespace Mx
open PySem L2
set_option hygiene false in
local macro_rules | `(tactic| walk_at "rd") => `(tactic| try simp only [L2.start, List.map_cons, List.map_nil, List.length_cons, List.length_nil, Nat.reduceAdd, Nat.reduceSub, Nat.reduceLT, Nat.reduceLeDiff, List.replicate_succ, List.replicate_zero, List.append_nil, List.nil_append, List.cons_append, List.set_cons_zero, List.set_cons_succ, List.getElem?_cons_zero, List.getElem?_cons_succ,
  Option.some.injEq, List.cons.injEq, and_true, true_and, and_assoc, reduceCtorEq, L2.V.int.injEq, L2.V.ref.injEq, L2.V.bl.injEq, L2.V.str.injEq, L2.V.ty.injEq, L2.HO.ins.injEq, L2.HO.lst.injEq, L2.HO.tup.injEq, L2.HO.dK.injEq, exists_eq_left', exists_eq_left, exists_eq_right, exists_eq', exists_eq, exists_and_left, exists_and_right, reduceIte, Bool.false_eq_true, Bool.not_true, Bool.not_false,
  L2.tSeq, L2.tIfS, L2.tRet, L2.tRetN, L2.tNext, L2.tAsg, L2.gName, L2.tVar, L2.tC, L2.tCons, L2.tNil, L2.tCB, L2.tOp, L2.tUn, L2.tTup, L2.tLst, L2.tB, L2.tOr, L2.tAnd, L2.tNot, L2.tAndV, L2.tOrV, L2.tNotV, L2.tIf, L2.tTest, L2.tChain, L2.rI, L2.rI0, L2.rU, L2.tDrop, L2.tNever, L2.tCall, L2.tMeth, L2.tMake, L2.rGcd, L2.tFld, L2.sFld, L2.sFldAug, Mx.sFldA, Mx.sFldAugA, L2.rAdd, L2.rSub, L2.rEq, L2.rNe, L2.tDGet, L2.tDIn, L2.tDNotIn, L2.sDPut,
  Mx.isi_int_bool, Mx.isi_int_int, Mx.isi_int_tuple, Mx.isi_int_list, Mx.isi_int_str, Mx.scal_int, Mx.scal_str, Mx.scal_bl, Mx.ofString_inj, Mx.ofString_beq, Mx.lk_cons, Mx.pf_nil, Mx.pf_cons, Mx.sz1, Mx.sz2, List.lookup_nil, String.reduceEq, decide_true, decide_false, decide_eq_true_eq, Int.natAbs_natCast, L2.upd_same, L2.upd_upd, L2.cxOf, L2.gSub])
set_option hygiene false in
local macro_rules | `(tactic| walk_at "rds") => `(tactic| try simp only [L2.start, List.map_cons, List.map_nil, List.length_cons, List.length_nil, Nat.reduceAdd, Nat.reduceSub, Nat.reduceLT, Nat.reduceLeDiff, List.replicate_succ, List.replicate_zero, List.append_nil, List.nil_append, List.cons_append, List.set_cons_zero, List.set_cons_succ, List.getElem?_cons_zero, List.getElem?_cons_succ,
  Option.some.injEq, List.cons.injEq, and_true, true_and, and_assoc, reduceCtorEq, L2.V.int.injEq, L2.V.ref.injEq, L2.V.bl.injEq, L2.V.str.injEq, L2.V.ty.injEq, L2.HO.ins.injEq, L2.HO.lst.injEq, L2.HO.tup.injEq, L2.HO.dK.injEq, exists_eq_left', exists_eq_left, exists_eq_right, exists_eq', exists_eq, exists_and_left, exists_and_right, reduceIte, Bool.false_eq_true, Bool.not_true, Bool.not_false,
  L2.tSeq, L2.tIfS, L2.tRet, L2.tRetN, L2.tNext, L2.tAsg, L2.gName, L2.tVar, L2.tC, L2.tCons, L2.tNil, L2.tCB, L2.tOp, L2.tUn, L2.tTup, L2.tLst, L2.tB, L2.tOr, L2.tAnd, L2.tNot, L2.tAndV, L2.tOrV, L2.tNotV, L2.tIf, L2.tTest, L2.tChain, L2.rI, L2.rI0, L2.rU, L2.tDrop, L2.tNever, L2.tCall, L2.tMeth, L2.tMake, L2.rGcd, L2.tFld, L2.sFld, L2.sFldAug, Mx.sFldA, Mx.sFldAugA, L2.rAdd, L2.rSub, L2.rEq, L2.rNe, L2.tDGet, L2.tDIn, L2.tDNotIn, L2.sDPut,
  Mx.isi_int_bool, Mx.isi_int_int, Mx.isi_int_tuple, Mx.isi_int_list, Mx.isi_int_str, Mx.scal_int, Mx.scal_str, Mx.scal_bl, Mx.ofString_inj, Mx.ofString_beq, Mx.lk_cons, Mx.pf_nil, Mx.pf_cons, Mx.sz1, Mx.sz2, List.lookup_nil, String.reduceEq, decide_true, decide_false, decide_eq_true_eq, Int.natAbs_natCast, L2.upd_same, L2.upd_upd, L2.cxOf, L2.gSub, *])

section
variable {P : Program} {w : World} {K : PySem.W.Frag} {mg : Str → Option Value} {base : Heap}
/-! ### the same at every place, however deep -/
def EqB (v w : V) : Prop := (∃ i, v = .int i ∧ w = .int i) ∨ (∃ x, PyData.strOk x = true ∧ v = .str x ∧ w = .str x) ∨ (v = .non ∧ w = .non)
def EqT (K : PySem.W.Frag) (H : Hp) : Nat → V → V → Prop
  | 0, v, w => EqB v w
  | n + 1, v, w => EqB v w ∨ ∃ (a b : Addr) (xs ys : List V), v = .ref a ∧ w = .ref b ∧ (TupAt K H a xs ∧ TupAt K H b ys ∨ H a = some (.lst xs) ∧ H b = some (.lst ys)) ∧ xs.length ≤ 100000 ∧ Paired (EqT K H n) xs ys
abbrev EqS (K : PySem.W.Frag) (H : Hp) (n : Nat) := Paired (EqT K H n)
theorem pr_map {α β : Type} {R S : α → β → Prop} (f : ∀ a b, R a b → S a b) : ∀ {xs : List α} {ys : List β}, Paired R xs ys → Paired S xs ys
  | _, _, .nil => .nil
  | _, _, .cons h r => .cons (f _ _ h) (pr_map f r)
theorem EqT.stF {F : List Addr} {H H' : Hp} (s : Stp F H H') (hF : ∀ b ∈ F, ∀ xs, H b ≠ some (.lst xs)) : ∀ {n : Nat} {v w : V}, EqT K H n v w → EqT K H' n v w
  | 0, _, _, h => h
  | n + 1, v, w, h => by
    rcases h with h | ⟨a, b, xs, ys, e1, e2, h, hl, hp⟩
    · exact .inl h
    · refine .inr ⟨a, b, xs, ys, e1, e2, ?_, hl, pr_map (fun _ _ q => EqT.stF s hF q) hp⟩
      rcases h with ⟨h1, h2⟩ | ⟨h1, h2⟩
      · exact .inl ⟨h1.st s, h2.st s⟩
      · exact .inr ⟨s.keep _ _ h1 fun z => hF _ z _ h1, s.keep _ _ h2 fun z => hF _ z _ h2⟩
theorem EqT.st {H H' : Hp} {n : Nat} {v w : V} (h : EqT K H n v w) (s : Stp [] H H') : EqT K H' n v w := h.stF s (fun _ z => nomatch z)
theorem EqS.st {H H' : Hp} {n : Nat} {xs ys : List V} (h : Paired (EqT K H n) xs ys) (s : Stp [] H H') : Paired (EqT K H' n) xs ys := pr_map (fun _ _ q => q.st s) h
theorem EqT.up {H : Hp} : ∀ {n : Nat} {v w : V}, EqT K H n v w → EqT K H (n + 1) v w
  | 0, _, _, h => .inl h
  | n + 1, v, w, h => by
    rcases h with h | ⟨a, b, xs, ys, e1, e2, h, hl, hp⟩
    · exact .inl h
    · exact .inr ⟨a, b, xs, ys, e1, e2, h, hl, pr_map (fun _ _ q => q.up) hp⟩
theorem pr_get {α β : Type} {R : α → β → Prop} : ∀ {xs : List α} {ys : List β}, Paired R xs ys → ∀ i, i < xs.length → i < ys.length → ∃ x y, xs[i]? = some x ∧ ys[i]? = some y ∧ R x y
  | _, _, .nil, _, h, _ => absurd h (Nat.not_lt_zero _)
  | _, _, .cons h _, 0, _, _ => ⟨_, _, rfl, rfl, h⟩
  | _, _, .cons _ r, i + 1, h1, h2 => by
    obtain ⟨x, y, e1, e2, q⟩ := pr_get r i (Nat.lt_of_succ_lt_succ h1) (Nat.lt_of_succ_lt_succ h2)
    exact ⟨x, y, e1, e2, q⟩
theorem at_pos {xs : List V} {i : Nat} {x : V} (h : xs[i]? = some x) : atI xs (0 + (i : Int)) = some x := by
  obtain ⟨hl, _⟩ := List.getElem?_eq_some_iff.mp h
  unfold atI ixN
  rw [if_pos (by omega), if_pos (by omega)]
  show xs[(0 + (i : Int)).toNat]? = _
  rw [show (0 + (i : Int)).toNat = i by omega]
  exact h
theorem isi_lstA {H : Hp} {Q : VK} {a : Addr} {xs : List V} {T : String} {b : Bool} (h : H a = some (.lst xs)) (hb : kitB "list" T = some b) (q : Q (.bl b) H) : rIsi K [.ref a, .ty T] H Q := ⟨_, _, _, _, _, rfl, .ty _, .base (.lst h), kit_ty hb, q⟩
theorem isi_strA {H : Hp} {Q : VK} {x : Str} {T : String} {b : Bool} (hb : kitB "str" T = some b) (q : Q (.bl b) H) : rIsi K [.str x, .ty T] H Q := ⟨_, _, _, _, _, rfl, .ty _, .base (.str x), kit_ty hb, q⟩
theorem isi_nonA {H : Hp} {Q : VK} {T : String} {b : Bool} (hb : kitB "NoneType" T = some b) (q : Q (.bl b) H) : rIsi K [.non, .ty T] H Q := ⟨_, _, _, _, _, rfl, .ty _, .base .non, kit_ty hb, q⟩
def sp_eq (K : PySem.W.Frag) (n : Nat) : Sp := fun vs H Q _ => ∃ v w, vs = [v, w] ∧ EqT K H n v w ∧ ∀ H', Stp [] H H' → Q (.bl true) H'
theorem ok_alike_deep {f : Addr} {fd : FuncData} (F : Fun K "_law_alike" "_law_alike" s_law_alike f fd) (B : Blt mg) (hm : mg "_law_alike" = some (.ref f)) (hk : PySem.W.keepIn K (.ref f) = true) (hb : Binds K fd ["_law_found", "_law_due"] []) :
    ∀ n, FnOk P w K mg base CX0 (n + 1) f fd ["_law_found", "_law_due"] (sp_eq K n)
  | 0 => by
    refine F.ok sc_law_alike (fun vs H Q E h => ?_) (fun cdv A outer s H vs Q E hr h => ?_)
    · obtain ⟨v, w', rfl, _⟩ := h
      rfl
    obtain ⟨v, w', rfl, h, k⟩ := h
    rcases h with ⟨i, rfl, rfl⟩ | ⟨x, hx, rfl, rfl⟩ | ⟨rfl, rfl⟩
    · refine ⟨_, pss_cons (ps_if (PW.pt (pw_or (pt_val (b_isi B (pv 1) B.tuple PyProof.Rows.boot_tuple)) (pw_or1 (pt_val (b_isi B (pv 1) B.list PyProof.Rows.boot_list))))) pss_never pss_nil)
      (pss_cons (ps_if (PW.pt (pw_or (pt_cmpR op_isN (pv 1) pe_non (nomark _)) (pw_or1 (pt_cmpR op_isN (pv 0) pe_non (nomark _))))) (pss_one (ps_ret (pe_and (pe_cmpR op_isN (pv 1) pe_non (nomark _)) (pe_one (pe_cmpR op_isN (pv 0) pe_non (nomark _)))))) pss_nil)
      (pss_cons (ps_if (PW.pt (pw_or (pt_val (b_isi B (pv 1) B.bool PyProof.Rows.boot_bool)) (pw_or1 (pt_val (b_isi B (pv 0) B.bool PyProof.Rows.boot_bool))))) pss_never pss_nil)
      (pss_cons (ps_if (pt_val (b_isi B (pv 1) B.str PyProof.Rows.boot_str)) (pss_one (ps_ret (pe_and (b_isi B (pv 0) B.str PyProof.Rows.boot_str) (pe_one (pe_cmpR op_eq (pv 0) (pv 1) (nomark _)))))) pss_nil)
      (pss_one (ps_ret (pe_and (b_isi B (pv 0) B.int PyProof.Rows.boot_int) (pe_one (pe_cmpR op_eq (pv 0) (pv 1) (nomark _))))))))), ?_⟩
      walk_at "rd"
      exact k _ Stp.refl
    · refine ⟨_, pss_cons (ps_if (PW.pt (pw_or (pt_val (b_isi B (pv 1) B.tuple PyProof.Rows.boot_tuple)) (pw_or1 (pt_val (b_isi B (pv 1) B.list PyProof.Rows.boot_list))))) pss_never pss_nil)
      (pss_cons (ps_if (PW.pt (pw_or (pt_cmpR op_isN (pv 1) pe_non (nomark _)) (pw_or1 (pt_cmpR op_isN (pv 0) pe_non (nomark _))))) (pss_one (ps_ret (pe_and (pe_cmpR op_isN (pv 1) pe_non (nomark _)) (pe_one (pe_cmpR op_isN (pv 0) pe_non (nomark _)))))) pss_nil)
      (pss_cons (ps_if (PW.pt (pw_or (pt_val (b_isi B (pv 1) B.bool PyProof.Rows.boot_bool)) (pw_or1 (pt_val (b_isi B (pv 0) B.bool PyProof.Rows.boot_bool))))) pss_never pss_nil)
      (pss_cons (ps_if (pt_val (b_isi B (pv 1) B.str PyProof.Rows.boot_str)) (pss_one (ps_ret (pe_and (b_isi B (pv 0) B.str PyProof.Rows.boot_str) (pe_one (pe_cmpR op_eq (pv 0) (pv 1) (nomark _)))))) pss_nil)
      (pss_one (ps_ret (pe_and (b_isi B (pv 0) B.int PyProof.Rows.boot_int) (pe_one (pe_cmpR op_eq (pv 0) (pv 1) (nomark _))))))))), ?_⟩
      walk_at "rd"
      refine isi_strA (b := false) (by decide +kernel) ?_
      walk_at "rd"
      refine isi_strA (b := false) (by decide +kernel) ?_
      walk_at "rd"
      refine isi_strA (b := false) (by decide +kernel) ?_
      walk_at "rd"
      refine isi_strA (b := false) (by decide +kernel) ?_
      walk_at "rd"
      refine isi_strA (b := true) (by decide +kernel) ?_
      walk_at "rd"
      refine isi_strA (b := true) (by decide +kernel) ?_
      walk_at "rd"
      exact k _ Stp.refl
    · refine ⟨_, pss_cons (ps_if (PW.pt (pw_or (pt_val (b_isi B (pv 1) B.tuple PyProof.Rows.boot_tuple)) (pw_or1 (pt_val (b_isi B (pv 1) B.list PyProof.Rows.boot_list))))) pss_never pss_nil)
      (pss_cons (ps_if (PW.pt (pw_or (pt_cmpR op_isN (pv 1) pe_non (nomark _)) (pw_or1 (pt_cmpR op_isN (pv 0) pe_non (nomark _))))) (pss_one (ps_ret (pe_and (pe_cmpR op_isN (pv 1) pe_non (nomark _)) (pe_one (pe_cmpR op_isN (pv 0) pe_non (nomark _)))))) pss_nil)
      (pss_cons (ps_if (PW.pt (pw_or (pt_val (b_isi B (pv 1) B.bool PyProof.Rows.boot_bool)) (pw_or1 (pt_val (b_isi B (pv 0) B.bool PyProof.Rows.boot_bool))))) pss_never pss_nil)
      (pss_cons (ps_if (pt_val (b_isi B (pv 1) B.str PyProof.Rows.boot_str)) (pss_one (ps_ret (pe_and (b_isi B (pv 0) B.str PyProof.Rows.boot_str) (pe_one (pe_cmpR op_eq (pv 0) (pv 1) (nomark _)))))) pss_nil)
      (pss_one (ps_ret (pe_and (b_isi B (pv 0) B.int PyProof.Rows.boot_int) (pe_one (pe_cmpR op_eq (pv 0) (pv 1) (nomark _))))))))), ?_⟩
      walk_at "rd"
      refine isi_nonA (b := false) (by decide +kernel) ?_
      walk_at "rd"
      refine isi_nonA (b := false) (by decide +kernel) ?_
      walk_at "rd"
      exact k _ Stp.refl
  | n + 1 => by
    have G : OwnF P w K mg base "_law_alike" (n + 1) ["_law_found", "_law_due"] (sp_eq K n) := ⟨f, fd, ok_alike_deep F B hm hk hb n, hm, hk, hb⟩
    refine F.ok sc_law_alike (fun vs H Q E h => ?_) (fun cdv A outer s H vs Q E hr h => ?_)
    · obtain ⟨v, w', rfl, _⟩ := h
      rfl
    have hu64 : (A.deeper (PyProof.Rows.envOfC "_law_alike" (defScope s_law_alike) s.heap.objs.size f cdv)).units + 64 < cLine := by
      have := hr.un
      omega
    obtain ⟨v, w', rfl, h, k⟩ := h
    rcases h with h | ⟨a, b, xs, ys, rfl, rfl, ⟨ha, hb⟩ | ⟨ha, hb⟩, hlen, hp⟩
    rotate_left
    · refine ⟨_, pss_cons (ps_if (PW.pt (pw_or (pt_val (b_isi B (pv 1) B.tuple PyProof.Rows.boot_tuple)) (pw_or1 (pt_val (b_isi B (pv 1) B.list PyProof.Rows.boot_list))))) (pss_cons (ps_if (PW.pt (pw_or (pt_cmpR op_ne (b_isi B (pv 0) B.tuple PyProof.Rows.boot_tuple) (b_isi B (pv 1) B.tuple PyProof.Rows.boot_tuple) (nomark _)) (pw_or1 (pt_not (pt_val (pe_callB call_isiT (by rfl) B.isi PyProof.Rows.boot_isinstance (pa_cons (pv 0) (pa_cons (pe_tup (pa_cons (pe_bltn (v := .ty "tuple") (by rfl) B.tuple PyProof.Rows.boot_tuple rfl) (pa_cons (pe_bltn (v := .ty "list") (by rfl) B.list PyProof.Rows.boot_list rfl) pa_nil))) pa_nil)))))))) pss_never pss_nil)
          (pss_cons (ps_if (pt_cmpR op_ne (pe_callB call_len_seq (by rfl) B.len PySem.boot_len (pa_cons (pv 0) pa_nil)) (pe_callB call_len_seq (by rfl) B.len PySem.boot_len (pa_cons (pv 1) pa_nil)) (nomark _)) pss_never pss_nil)
          (pss_one (ps_ret (pe_cmpR (op_eqD hu64) (pe_lc (own := [("_law_k", 2)]) (te := tVar 2) (tt := tNot (tB (tCall (sp_eq K n) [] E0 (tCons (tOp (rIxT K) (tVar 0) (tVar 2)) (tCons (tOp (rIxT K) (tVar 1) (tVar 2)) tNil)))))
              rfl sc_law_alike.nd (pi_range1 (by rfl) B.range (pa_cons (pe_callB call_len_seq (by rfl) B.len PySem.boot_len (pa_cons (pv 1) pa_nil)) pa_nil)) (blkOk_by (N := ["_law_found", "_law_due", "_law_k"]) (sc := defScope s_law_alike) (by decide +kernel))
              (fun _ _ _ _ _ => pg_name (i := 2) sc_law_alike.nd rfl (.inl rfl)) (fun _ _ _ _ _ => pts_one (pt_not (pt_val (p_call G hr (pa_cons (pe_ix ix_tup (pv 0) (pv 2) (fun _ _ => rfl)) (pa_cons (pe_ix ix_tup (pv 1) (pv 2) (fun _ _ => rfl)) pa_nil)))))) (fun _ _ _ _ _ => pv 2)) (pe_lst pa_nil) (nomark _)))))) pss_nil)
        pss_never, ?_⟩
      walk_at "rd"
      refine isi_tupA hb (b := true) (by decide +kernel) ?_
      walk_at "rd"
      refine isi_tupA ha (b := true) (by decide +kernel) (isi_tupA hb (b := true) (by decide +kernel) ?_)
      walk_at "rd"
      intro T hT
      have s1 := Stp.new (o := .tup [.ty "tuple", .ty "list"]) hT
      refine ⟨.ref a, T, _, _, _, true, rfl, upd_same, .cons (.ty _) (.cons (.ty _) .nil), tyx_tup (ha.st s1), kitAny_cons (b := true) (kit_ty (by decide +kernel)) (fun z => nomatch z) (fun _ => rfl), ?_⟩
      have ha1 := ha.st s1
      have hb1 := hb.st s1
      have hp1 := EqS.st hp s1
      generalize upd H T (.tup [.ty "tuple", .ty "list"]) = H1 at *
      walk_at "rd"
      refine ⟨_, .inr ha1.sq, _, .inr hb1.sq, ?_⟩
      walk_at "rd"
      have hl := hp.length
      rw [decide_eq_true (show ((xs.length : Nat) : Int) = ((ys.length : Nat) : Int) by rw [hl])]
      refine iteF ?_
      refine ⟨_, rfl, b, rfl, _, .inr hb1.sq, _, rfl, by omega, by omega, ?_⟩
      intro D hD
      refine lc_range (lo := 0) (n := ((ys.length : Nat) : Int).toNat) (fun i H' => Stp [] H1 H' ∧ H' D = some (.lst [])) ⟨Stp.new hD, upd_same⟩ (fun i H' hi h => ?_) (fun H' h => ?_)
      · obtain ⟨s2, hl2⟩ := h
        have hi' : i < ys.length := by omega
        have ha2 := ha1.st s2
        have hb2 := hb1.st s2
        obtain ⟨x, y, hx, hy, hxy⟩ := pr_get (EqS.st hp1 s2) i (by omega) hi'
        refine ⟨wipe1, ⟨_, rfl, _, rfl, a, _, _, _, rfl, rfl, ha2.sq, at_pos hx, _, rfl, _, rfl, b, _, _, _, rfl, rfl, hb2.sq, at_pos hy, ?_⟩⟩
        refine ⟨x, y, rfl, hxy, fun H3 s3 => ⟨_, rfl, iteF ?_⟩⟩
        exact ⟨s2.trans s3, s3.keep _ _ hl2 (by simp)⟩
      · obtain ⟨s2, hl2⟩ := h
        refine ⟨Nat.zero_le _, fun p hp => ?_⟩
        have s3 := Stp.new (o := .lst []) hp
        refine ⟨_, _, .lst (.inl (.inl (s3.keep _ _ hl2 (by simp)))) .nil, .lst (.inl (.inl upd_same)) .nil, rfl, rfl, ?_⟩
        exact k _ (s1.trans (s2.trans s3))
    · refine ⟨_, pss_cons (ps_if (PW.pt (pw_or (pt_val (b_isi B (pv 1) B.tuple PyProof.Rows.boot_tuple)) (pw_or1 (pt_val (b_isi B (pv 1) B.list PyProof.Rows.boot_list))))) (pss_cons (ps_if (PW.pt (pw_or (pt_cmpR op_ne (b_isi B (pv 0) B.tuple PyProof.Rows.boot_tuple) (b_isi B (pv 1) B.tuple PyProof.Rows.boot_tuple) (nomark _)) (pw_or1 (pt_not (pt_val (pe_callB call_isiT (by rfl) B.isi PyProof.Rows.boot_isinstance (pa_cons (pv 0) (pa_cons (pe_tup (pa_cons (pe_bltn (v := .ty "tuple") (by rfl) B.tuple PyProof.Rows.boot_tuple rfl) (pa_cons (pe_bltn (v := .ty "list") (by rfl) B.list PyProof.Rows.boot_list rfl) pa_nil))) pa_nil)))))))) pss_never pss_nil)
          (pss_cons (ps_if (pt_cmpR op_ne (pe_callB call_len_seq (by rfl) B.len PySem.boot_len (pa_cons (pv 0) pa_nil)) (pe_callB call_len_seq (by rfl) B.len PySem.boot_len (pa_cons (pv 1) pa_nil)) (nomark _)) pss_never pss_nil)
          (pss_one (ps_ret (pe_cmpR (op_eqD hu64) (pe_lc (own := [("_law_k", 2)]) (te := tVar 2) (tt := tNot (tB (tCall (sp_eq K n) [] E0 (tCons (tOp (rIxL K) (tVar 0) (tVar 2)) (tCons (tOp (rIxL K) (tVar 1) (tVar 2)) tNil)))))
              rfl sc_law_alike.nd (pi_range1 (by rfl) B.range (pa_cons (pe_callB call_len_seq (by rfl) B.len PySem.boot_len (pa_cons (pv 1) pa_nil)) pa_nil)) (blkOk_by (N := ["_law_found", "_law_due", "_law_k"]) (sc := defScope s_law_alike) (by decide +kernel))
              (fun _ _ _ _ _ => pg_name (i := 2) sc_law_alike.nd rfl (.inl rfl)) (fun _ _ _ _ _ => pts_one (pt_not (pt_val (p_call G hr (pa_cons (pe_ix ix_list (pv 0) (pv 2) (fun _ _ => rfl)) (pa_cons (pe_ix ix_list (pv 1) (pv 2) (fun _ _ => rfl)) pa_nil)))))) (fun _ _ _ _ _ => pv 2)) (pe_lst pa_nil) (nomark _)))))) pss_nil)
        pss_never, ?_⟩
      walk_at "rd"
      refine isi_lstA hb (b := false) (by decide +kernel) ?_
      walk_at "rd"
      refine isi_lstA hb (b := true) (by decide +kernel) ?_
      walk_at "rd"
      refine isi_lstA ha (b := false) (by decide +kernel) (isi_lstA hb (b := false) (by decide +kernel) ?_)
      walk_at "rd"
      intro T hT
      have s1 := Stp.new (o := .tup [.ty "tuple", .ty "list"]) hT
      have ha1 := s1.keep _ _ ha (by simp)
      have hb1 := s1.keep _ _ hb (by simp)
      have hp1 := EqS.st hp s1
      refine ⟨.ref a, T, _, _, _, true, rfl, upd_same, .cons (.ty _) (.cons (.ty _) .nil), .base (.lst ha1), kitAny_cons (b := false) (kit_ty (by decide +kernel)) (fun _ => kitAny_cons (b := true) (kit_ty (by decide +kernel)) (fun z => nomatch z) (fun _ => rfl)) (fun z => nomatch z), ?_⟩
      generalize upd H T (.tup [.ty "tuple", .ty "list"]) = H1 at *
      walk_at "rd"
      refine ⟨_, .inl (.inl (.inl ha1)), _, .inl (.inl (.inl hb1)), ?_⟩
      walk_at "rd"
      have hl := hp.length
      rw [decide_eq_true (show ((xs.length : Nat) : Int) = ((ys.length : Nat) : Int) by rw [hl])]
      refine iteF ?_
      refine ⟨_, rfl, b, rfl, _, .inl (.inl (.inl hb1)), _, rfl, by omega, by omega, ?_⟩
      intro D hD
      refine lc_range (lo := 0) (n := ((ys.length : Nat) : Int).toNat) (fun i H' => Stp [] H1 H' ∧ H' D = some (.lst [])) ⟨Stp.new hD, upd_same⟩ (fun i H' hi h => ?_) (fun H' h => ?_)
      · obtain ⟨s2, hl2⟩ := h
        have hi' : i < ys.length := by omega
        have ha2 := s2.keep _ _ ha1 (by simp)
        have hb2 := s2.keep _ _ hb1 (by simp)
        obtain ⟨x, y, hx, hy, hxy⟩ := pr_get (EqS.st hp1 s2) i (by omega) hi'
        refine ⟨wipe1, ⟨_, rfl, _, rfl, a, _, _, _, rfl, rfl, (.inl (.inl ha2)), at_pos hx, _, rfl, _, rfl, b, _, _, _, rfl, rfl, (.inl (.inl hb2)), at_pos hy, ?_⟩⟩
        refine ⟨x, y, rfl, hxy, fun H3 s3 => ⟨_, rfl, iteF ?_⟩⟩
        exact ⟨s2.trans s3, s3.keep _ _ hl2 (by simp)⟩
      · obtain ⟨s2, hl2⟩ := h
        refine ⟨Nat.zero_le _, fun p hp => ?_⟩
        have s3 := Stp.new (o := .lst []) hp
        refine ⟨_, _, .lst (.inl (.inl (s3.keep _ _ hl2 (by simp)))) .nil, .lst (.inl (.inl upd_same)) .nil, rfl, rfl, ?_⟩
        exact k _ (s1.trans (s2.trans s3))
    rcases h with ⟨i, rfl, rfl⟩ | ⟨x, hx, rfl, rfl⟩ | ⟨rfl, rfl⟩
    · refine ⟨_, pss_cons (ps_if (PW.pt (pw_or (pt_val (b_isi B (pv 1) B.tuple PyProof.Rows.boot_tuple)) (pw_or1 (pt_val (b_isi B (pv 1) B.list PyProof.Rows.boot_list))))) pss_never pss_nil)
      (pss_cons (ps_if (PW.pt (pw_or (pt_cmpR op_isN (pv 1) pe_non (nomark _)) (pw_or1 (pt_cmpR op_isN (pv 0) pe_non (nomark _))))) (pss_one (ps_ret (pe_and (pe_cmpR op_isN (pv 1) pe_non (nomark _)) (pe_one (pe_cmpR op_isN (pv 0) pe_non (nomark _)))))) pss_nil)
      (pss_cons (ps_if (PW.pt (pw_or (pt_val (b_isi B (pv 1) B.bool PyProof.Rows.boot_bool)) (pw_or1 (pt_val (b_isi B (pv 0) B.bool PyProof.Rows.boot_bool))))) pss_never pss_nil)
      (pss_cons (ps_if (pt_val (b_isi B (pv 1) B.str PyProof.Rows.boot_str)) (pss_one (ps_ret (pe_and (b_isi B (pv 0) B.str PyProof.Rows.boot_str) (pe_one (pe_cmpR op_eq (pv 0) (pv 1) (nomark _)))))) pss_nil)
      (pss_one (ps_ret (pe_and (b_isi B (pv 0) B.int PyProof.Rows.boot_int) (pe_one (pe_cmpR op_eq (pv 0) (pv 1) (nomark _))))))))), ?_⟩
      walk_at "rd"
      exact k _ Stp.refl
    · refine ⟨_, pss_cons (ps_if (PW.pt (pw_or (pt_val (b_isi B (pv 1) B.tuple PyProof.Rows.boot_tuple)) (pw_or1 (pt_val (b_isi B (pv 1) B.list PyProof.Rows.boot_list))))) pss_never pss_nil)
      (pss_cons (ps_if (PW.pt (pw_or (pt_cmpR op_isN (pv 1) pe_non (nomark _)) (pw_or1 (pt_cmpR op_isN (pv 0) pe_non (nomark _))))) (pss_one (ps_ret (pe_and (pe_cmpR op_isN (pv 1) pe_non (nomark _)) (pe_one (pe_cmpR op_isN (pv 0) pe_non (nomark _)))))) pss_nil)
      (pss_cons (ps_if (PW.pt (pw_or (pt_val (b_isi B (pv 1) B.bool PyProof.Rows.boot_bool)) (pw_or1 (pt_val (b_isi B (pv 0) B.bool PyProof.Rows.boot_bool))))) pss_never pss_nil)
      (pss_cons (ps_if (pt_val (b_isi B (pv 1) B.str PyProof.Rows.boot_str)) (pss_one (ps_ret (pe_and (b_isi B (pv 0) B.str PyProof.Rows.boot_str) (pe_one (pe_cmpR op_eq (pv 0) (pv 1) (nomark _)))))) pss_nil)
      (pss_one (ps_ret (pe_and (b_isi B (pv 0) B.int PyProof.Rows.boot_int) (pe_one (pe_cmpR op_eq (pv 0) (pv 1) (nomark _))))))))), ?_⟩
      walk_at "rd"
      refine isi_strA (b := false) (by decide +kernel) ?_
      walk_at "rd"
      refine isi_strA (b := false) (by decide +kernel) ?_
      walk_at "rd"
      refine isi_strA (b := false) (by decide +kernel) ?_
      walk_at "rd"
      refine isi_strA (b := false) (by decide +kernel) ?_
      walk_at "rd"
      refine isi_strA (b := true) (by decide +kernel) ?_
      walk_at "rd"
      refine isi_strA (b := true) (by decide +kernel) ?_
      walk_at "rd"
      exact k _ Stp.refl
    · refine ⟨_, pss_cons (ps_if (PW.pt (pw_or (pt_val (b_isi B (pv 1) B.tuple PyProof.Rows.boot_tuple)) (pw_or1 (pt_val (b_isi B (pv 1) B.list PyProof.Rows.boot_list))))) pss_never pss_nil)
      (pss_cons (ps_if (PW.pt (pw_or (pt_cmpR op_isN (pv 1) pe_non (nomark _)) (pw_or1 (pt_cmpR op_isN (pv 0) pe_non (nomark _))))) (pss_one (ps_ret (pe_and (pe_cmpR op_isN (pv 1) pe_non (nomark _)) (pe_one (pe_cmpR op_isN (pv 0) pe_non (nomark _)))))) pss_nil)
      (pss_cons (ps_if (PW.pt (pw_or (pt_val (b_isi B (pv 1) B.bool PyProof.Rows.boot_bool)) (pw_or1 (pt_val (b_isi B (pv 0) B.bool PyProof.Rows.boot_bool))))) pss_never pss_nil)
      (pss_cons (ps_if (pt_val (b_isi B (pv 1) B.str PyProof.Rows.boot_str)) (pss_one (ps_ret (pe_and (b_isi B (pv 0) B.str PyProof.Rows.boot_str) (pe_one (pe_cmpR op_eq (pv 0) (pv 1) (nomark _)))))) pss_nil)
      (pss_one (ps_ret (pe_and (b_isi B (pv 0) B.int PyProof.Rows.boot_int) (pe_one (pe_cmpR op_eq (pv 0) (pv 1) (nomark _))))))))), ?_⟩
      walk_at "rd"
      refine isi_nonA (b := false) (by decide +kernel) ?_
      walk_at "rd"
      refine isi_nonA (b := false) (by decide +kernel) ?_
      walk_at "rd"
      exact k _ Stp.refl
/-! ### what == and != tell of such -/
theorem EqB.dp {H : Hp} {v w' : V} (h : EqB v w') : ∃ d, Dp K H v d ∧ Dp K H w' d ∧ d.canLay0 = true ∧ d.depth ≤ 1 ∧ PyData.eqv d d = true := by
  rcases h with ⟨i, rfl, rfl⟩ | ⟨x, hx, rfl, rfl⟩ | ⟨rfl, rfl⟩
  · exact ⟨_, .int i, .int i, by simp [PyData.canLay0], by simp [PyData.depth], by simp [PyData.eqv]⟩
  · exact ⟨_, .str x, .str x, by simpa [PyData.canLay0] using hx, by simp [PyData.depth], by simp [PyData.eqv]⟩
  · exact ⟨_, .non, .non, by simp [PyData.canLay0], by simp [PyData.depth], by simp [PyData.eqv]⟩
theorem all_dp {H : Hp} {n : Nat} (ih : ∀ v w', EqT K H n v w' → ∃ d, Dp K H v d ∧ Dp K H w' d ∧ d.canLay0 = true ∧ d.depth ≤ n + 1 ∧ PyData.eqv d d = true) : ∀ {xs ys : List V}, Paired (EqT K H n) xs ys →
    ∃ ds, DpAll K H xs ds ∧ DpAll K H ys ds ∧ PyData.canLayAll0 ds = true ∧ PyData.depthAll ds ≤ n + 1 ∧ PyData.eqvAll ds ds = true
  | _, _, .nil => ⟨[], .nil, .nil, by simp [PyData.canLayAll0], by simp [PyData.depthAll], by simp [PyData.eqvAll]⟩
  | _, _, .cons h r => by
    obtain ⟨d, a1, a2, a3, a4, a5⟩ := ih _ _ h
    obtain ⟨ds, b1, b2, b3, b4, b5⟩ := all_dp ih r
    exact ⟨d :: ds, .cons a1 b1, .cons a2 b2, by simp [PyData.canLayAll0, a3, b3], by simp only [PyData.depthAll]; omega, by simp [PyData.eqvAll, a5, b5]⟩
theorem EqT.dp {H : Hp} : ∀ (n : Nat) (v w' : V), EqT K H n v w' → ∃ d, Dp K H v d ∧ Dp K H w' d ∧ d.canLay0 = true ∧ d.depth ≤ n + 1 ∧ PyData.eqv d d = true
  | 0, v, w', h => EqB.dp h
  | n + 1, v, w', h => by
    rcases h with h | ⟨a, b, xs, ys, rfl, rfl, h, _, hp⟩
    · obtain ⟨d, a1, a2, a3, a4, a5⟩ := EqB.dp (K := K) (H := H) h
      exact ⟨d, a1, a2, a3, by omega, a5⟩
    · obtain ⟨ds, b1, b2, b3, b4, b5⟩ := all_dp (EqT.dp n) hp
      rcases h with ⟨h1, h2⟩ | ⟨h1, h2⟩
      · exact ⟨.tuple ds, .tup h1.sq b1, .tup h2.sq b2, by simp [PyData.canLay0, b3], by simp only [PyData.depth]; omega, by simp [PyData.eqv, b5]⟩
      · exact ⟨.list ds, .lst (.inl (.inl h1)) b1, .lst (.inl (.inl h2)) b2, by simp [PyData.canLay0, b3], by simp only [PyData.depth]; omega, by simp [PyData.eqv, b5]⟩
theorem eq_T {H : Hp} {n : Nat} {v w' : V} {Q : VK} (h : EqT K H n v w') (hn : n ≤ 60) (k : Q (.bl true) H) : rEqD K v w' H Q := by
  obtain ⟨d, a1, a2, a3, a4, a5⟩ := EqT.dp n _ _ h
  have hs : SeqAt.shaped d = true := by simp [SeqAt.shaped, a3]; omega
  exact ⟨d, d, a1, a2, hs, hs, by rw [a5]; exact k⟩
theorem ne_T {H : Hp} {n : Nat} {v w' : V} {Q : VK} (h : EqT K H n v w') (hn : n ≤ 60) (k : Q (.bl false) H) : rNeD K v w' H Q := by
  obtain ⟨d, a1, a2, a3, a4, a5⟩ := EqT.dp n _ _ h
  have hs : SeqAt.shaped d = true := by simp [SeqAt.shaped, a3]; omega
  exact ⟨d, d, a1, a2, hs, hs, by rw [a5]; exact k⟩
/-- fractions, pairs -/
theorem EqT.q {H : Hp} {v w' : V} {q : Rat} (h : IsQ K H v q) (g : IsQ K H w' q) : EqT K H 1 v w' := by
  obtain ⟨a, rfl, ha⟩ := h
  obtain ⟨b, rfl, hb⟩ := g
  exact .inr ⟨a, b, _, _, rfl, rfl, .inl ⟨ha, hb⟩, by show 2 ≤ 100000; decide, .cons (.inl ⟨_, rfl, rfl⟩) (.cons (.inl ⟨_, rfl, rfl⟩) .nil)⟩
end
end Mx

namespace Mx
open PySem L2
theorem row_mv {K : PySem.W.Frag} {H0 H H' : Hp} {F : List Addr} {r sc : Addr} {ns : List Int} (h0 : RowAt K H0 r sc ns) (h : RowAt K H r sc ns) (s : Stp F H H') (hr : r ∉ F) (s0 : Stp [r] H0 H') : RowAt K H' r sc ns := by
  obtain ⟨_, _, _, _, _, _, hs, hn⟩ := h0
  obtain ⟨pos, mix, p0, m0, m1, hrr, _, _⟩ := h
  exact ⟨pos, mix, p0, m0, m1, s.keep _ _ hrr hr, seq_or hs s0 hn, hn⟩
theorem dpAll_len {K : PySem.W.Frag} {H : Hp} : ∀ {vs : List V} {ds : List PyData}, DpAll K H vs ds → vs.length = ds.length
  | _, _, .nil => rfl
  | _, _, .cons _ r => by rw [List.length_cons, List.length_cons, dpAll_len r]
theorem ne_nilL {K : PySem.W.Frag} {H : Hp} {a b : Addr} {vs : List V} {n : Nat} {Q : VK} (ha : H a = some (.lst vs)) (hb : H b = some (.lst [])) (h : Paired (EqT K H n) vs vs) (hn : n ≤ 60) (k : Q (.bl (!vs.isEmpty)) H) : rNeD K (.ref a) (.ref b) H Q := by
  obtain ⟨ds, b1, _, b3, b4, _⟩ := all_dp (EqT.dp n) h
  have hs : SeqAt.shaped (.list ds) = true := by
    have : (PyData.list ds).depth ≤ 64 := by simp only [PyData.depth]; omega
    simp [SeqAt.shaped, PyData.canLay0, b3, this]
  refine ⟨.list ds, .list [], .lst (.inl (.inl ha)) b1, .lst (.inl (.inl hb)) .nil, hs, rfl, ?_⟩
  have e : PyData.eqv (.list ds) (.list []) = vs.isEmpty := by
    have := dpAll_len b1
    cases ds with
    | nil => 
      have : vs = [] := List.length_eq_zero_iff.mp this
      rw [this]
      rfl
    | cons d r =>
      cases vs with
      | nil => simp at this
      | cons v t => rfl
  rw [e]
  exact k
theorem ints_refl {K : PySem.W.Frag} {H : Hp} {n : Nat} : ∀ (ns : List Int), Paired (EqT K H n) (ns.map V.int) (ns.map V.int)
  | [] => .nil
  | i :: r => .cons (by cases n with | zero => exact .inl ⟨i, rfl, rfl⟩ | succ n => exact .inl (.inl ⟨i, rfl, rfl⟩)) (ints_refl r)
end Mx

namespace Mx
open PySem L2
/-! ### numbers that came in parcels of thirty-two -/
def Cov (c : List (Int × Int)) (xs : List Int) (n : Nat) : Prop := ∀ i : Int, look c i = if 0 ≤ i ∧ i < (n : Int) then xs[i.toNat]? else none
theorem look_put1 {c : List (Int × Int)} {i x : Int} (h : look c i = none) (j : Int) : look (put1 c i x) j = if j = i then some x else look c j := by
  unfold put1
  rw [h]
  show look (c ++ [(i, x)]) j = _
  unfold look at h ⊢
  rw [List.find?_append]
  by_cases e : j = i
  · subst e
    rw [if_pos rfl]
    cases q : c.find? fun p => decide (p.1 = j) with
    | none => simp
    | some p => rw [q] at h; cases h
  · rw [if_neg e]
    cases q : c.find? fun p => decide (p.1 = j) with
    | none => simp [Ne.symm e]
    | some p => rfl
theorem cov_one {c : List (Int × Int)} {xs : List Int} {n : Nat} {x : Int} (h : Cov c xs n) (hx : xs[n]? = some x) : Cov (put1 c n x) xs (n + 1) := by
  have hn : look c (n : Int) = none := by rw [h, if_neg (by omega)]
  intro j
  rw [look_put1 hn]
  by_cases e : j = (n : Int)
  · subst e
    rw [if_pos rfl, if_pos (by omega)]
    rw [show ((n : Int)).toNat = n by omega, hx]
  · rw [if_neg e, h j]
    by_cases z : 0 ≤ j ∧ j < (n : Int)
    · rw [if_pos z, if_pos (by omega)]
    · rw [if_neg z, if_neg (by omega)]
theorem cov_all {xs : List Int} : ∀ (m : Nat) (c : List (Int × Int)) (n : Nat), n + m ≤ xs.length → Cov c xs n → Cov (putAll c (n : Int) ((xs.drop n).take m)) xs (n + m)
  | 0, c, n, _, h => by
    rw [List.take_zero]
    exact h
  | m + 1, c, n, hl, h => by
    have hx : xs[n]? = some (xs[n]'(by omega)) := List.getElem?_eq_getElem _
    have e : (xs.drop n).take (m + 1) = (xs[n]'(by omega)) :: (xs.drop (n + 1)).take m := by
      rw [List.drop_eq_getElem_cons (by omega), List.take_succ_cons]
    rw [e]
    show Cov (putAll (put1 c n _) ((n : Int) + 1) _) xs _
    have h2 := cov_all m (put1 c n (xs[n]'(by omega))) (n + 1) (by omega) (cov_one h hx)
    rw [show (((n + 1 : Nat)) : Int) = (n : Int) + 1 by omega] at h2
    rw [show n + (m + 1) = n + 1 + m by omega]
    exact h2
theorem put1_in {c : List (Int × Int)} {i x : Int} (h : ∀ p ∈ c, -999 ≤ p.2 ∧ p.2 ≤ 999) (hx : -999 ≤ x ∧ x ≤ 999) : ∀ p ∈ put1 c i x, -999 ≤ p.2 ∧ p.2 ≤ 999 := by
  unfold put1
  split
  · exact h
  · intro p hp
    rcases List.mem_append.mp hp with q | q
    · exact h p q
    · rw [List.mem_singleton.mp q]
      exact hx
theorem putAll_in : ∀ (ns : List Int) (c : List (Int × Int)) (i : Int), (∀ p ∈ c, -999 ≤ p.2 ∧ p.2 ≤ 999) → (∀ n ∈ ns, -999 ≤ n ∧ n ≤ 999) → ∀ p ∈ putAll c i ns, -999 ≤ p.2 ∧ p.2 ≤ 999
  | [], _, _, h, _ => h
  | n :: r, c, i, h, hn => putAll_in r (put1 c i n) (i + 1) (put1_in h (hn n List.mem_cons_self)) fun m hm => hn m (List.mem_cons_of_mem _ hm)

/-! ### a voice that has all its numbers -/
/-- where a beat is, and whether it is within the numbers -/
structure Full (s : LineS) (xs : List Int) : Prop where
  ok : LineOk s
  cov : Cov s.came xs xs.length
  many : s.many = some (xs.length : Int)
  pos : 0 < xs.length
def LineS.far (s : LineS) (t : Int) : Int := (t - s.beg) * s.pn
theorem far_parts (s : LineS) (t : Int) : s.low t * s.pb + s.rest t = s.far t := by
  unfold LineS.low LineS.rest LineS.far
  have := Int.mul_ediv_add_emod ((t - s.beg) * s.pn) s.pb
  rw [Int.mul_comm] at this
  exact this
theorem Full.begun {s : LineS} {xs : List Int} (h : Full s xs) (t : Int) : s.begun t = decide (0 ≤ s.far t) := by
  unfold LineS.begun LineS.far
  have := h.ok.pn0
  by_cases e : s.beg ≤ t
  · rw [decide_eq_true e, decide_eq_true (Int.mul_nonneg (by omega) (by omega))]
  · rw [decide_eq_false e, decide_eq_false]
    intro z
    have : (t - s.beg) * s.pn < 0 := Int.mul_neg_of_neg_of_pos (by omega) (by omega)
    omega
theorem Full.last {s : LineS} {xs : List Int} (h : Full s xs) (t : Int) : (s.last t < (xs.length : Int)) ↔ s.far t ≤ ((xs.length : Int) - 1) * s.pb := by
  obtain ⟨o1, o2, o3, o4, _, _⟩ := h.ok
  have hf := far_parts s t
  have r0 : 0 ≤ s.rest t := Int.emod_nonneg _ (by omega)
  have r1 : s.rest t < s.pb := Int.emod_lt_of_pos _ (by omega)
  unfold LineS.last
  by_cases e : s.rest t = 0
  · rw [if_pos e, ← hf, e, Int.add_zero]
    constructor
    · intro z
      exact Int.mul_le_mul_of_nonneg_right (by omega) (by omega)
    · intro z
      have : s.low t ≤ (xs.length : Int) - 1 := Int.le_of_mul_le_mul_right z (by omega)
      omega
  · rw [if_neg e, ← hf]
    constructor
    · intro z
      have h1 : (s.low t + 1) * s.pb ≤ ((xs.length : Int) - 1) * s.pb := Int.mul_le_mul_of_nonneg_right (by omega) (by omega)
      rw [Int.add_mul, Int.one_mul] at h1
      omega
    · intro z
      have h1 : s.low t * s.pb < ((xs.length : Int) - 1) * s.pb := by omega
      have : s.low t < (xs.length : Int) - 1 := Int.lt_of_mul_lt_mul_right h1 (by omega)
      omega
theorem Full.low0 {s : LineS} {xs : List Int} (h : Full s xs) {t : Int} (hf : 0 ≤ s.far t) : 0 ≤ s.low t := Int.ediv_nonneg hf (by have := h.ok.pb0; omega)
theorem Full.over {s : LineS} {xs : List Int} (h : Full s xs) (t : Int) : s.over t = !decide (s.far t ≤ ((xs.length : Int) - 1) * s.pb) := by
  unfold LineS.over
  rw [h.many]
  show decide ((xs.length : Int) ≤ s.last t) = _
  have := h.last t
  by_cases e : s.last t < (xs.length : Int)
  · rw [decide_eq_false (by omega), decide_eq_true (this.mp e)]
    rfl
  · rw [decide_eq_true (by omega), decide_eq_false (fun z => e (this.mpr z))]
    rfl
theorem Full.has {s : LineS} {xs : List Int} (h : Full s xs) {i : Int} (h0 : 0 ≤ i) (h1 : i < (xs.length : Int)) : s.has i = true ∧ s.at i = xs[i.toNat]'(by omega) := by
  have := h.cov i
  rw [if_pos ⟨h0, h1⟩, List.getElem?_eq_getElem (by omega)] at this
  unfold LineS.has LineS.at
  rw [this]
  exact ⟨rfl, rfl⟩
theorem Full.lacks {s : LineS} {xs : List Int} (h : Full s xs) (t : Int) : s.lacks t = false := by
  unfold LineS.lacks
  rw [h.begun, h.over]
  by_cases e0 : 0 ≤ s.far t
  · by_cases e1 : s.far t ≤ ((xs.length : Int) - 1) * s.pb
    · rw [decide_eq_true e0, decide_eq_true e1]
      simp only [Bool.true_and, Bool.not_true, Bool.not_false]
      rw [List.any_eq_false]
      intro i hi
      have hl := (h.last t).mpr e1
      have hlow := h.low0 e0
      have : 0 ≤ i ∧ i < (xs.length : Int) := by
        unfold LineS.want at hi
        unfold LineS.last at hl
        by_cases e : s.rest t = 0
        · rw [if_pos e] at hi hl
          rw [List.mem_singleton.mp hi]
          exact ⟨hlow, hl⟩
        · rw [if_neg e] at hi hl
          rcases List.mem_cons.mp hi with q | q
          · rw [q]; exact ⟨hlow, by omega⟩
          · rw [List.mem_singleton.mp q]; exact ⟨by omega, hl⟩
      rw [(h.has this.1 this.2).1]
      decide
    · rw [decide_eq_false e1]
      simp
  · rw [decide_eq_false e0]
    simp
theorem Full.ready {s : LineS} {xs : List Int} (h : Full s xs) (t : Int) : s.ready t = decide (0 ≤ s.far t ∧ s.far t ≤ ((xs.length : Int) - 1) * s.pb) := by
  unfold LineS.ready
  rw [h.lacks, h.begun, h.over]
  by_cases e0 : 0 ≤ s.far t <;> by_cases e1 : s.far t ≤ ((xs.length : Int) - 1) * s.pb <;> simp [e0, e1]
/-- the number at a place, nothing behind the last one -/
def nth (xs : List Int) (i : Int) : Int := (xs ++ [0])[i.toNat]?.getD 0
theorem Full.value {s : LineS} {xs : List Int} (h : Full s xs) {t : Int} (hr : s.ready t = true) (ld : Int) : s.value t * mkRat ld 64 = mkRat ((nth xs (s.low t) * s.pb + (nth xs (s.low t + 1) - nth xs (s.low t)) * s.rest t) * ld) (64 * s.pb).toNat := by
  rw [h.ready] at hr
  obtain ⟨e0, e1⟩ := of_decide_eq_true hr
  have hl := (h.last t).mpr e1
  have hlow := h.low0 e0
  obtain ⟨o1, o2, o3, o4, _, _⟩ := h.ok
  have hn : ∀ i : Int, 0 ≤ i → i < (xs.length : Int) → s.at i = nth xs i := by
    intro i i0 i1
    rw [(h.has i0 i1).2]
    unfold nth
    rw [List.getElem?_append_left (by omega), List.getElem?_eq_getElem (by omega)]
    rfl
  unfold LineS.value
  unfold LineS.last at hl
  have e64 : (64 * s.pb).toNat = s.pb.toNat * 64 := by omega
  by_cases e : s.rest t = 0
  · rw [if_pos e] at hl ⊢
    rw [hn _ hlow hl, e, Int.mul_zero, Int.add_zero, Rat.mkRat_mul_mkRat, e64, Nat.one_mul]
    have hpb : s.pb = ((s.pb.toNat : Nat) : Int) := by omega
    have := Rat.mkRat_mul_left (n := nth xs (s.low t) * ld) (d := 64) (a := s.pb.toNat) (by omega)
    rw [← this, ← hpb]
    congr 1
    rw [Int.mul_comm s.pb, Int.mul_assoc, Int.mul_comm ld, ← Int.mul_assoc]
  · rw [if_neg e] at hl ⊢
    rw [hn _ hlow (by omega), hn _ (by omega) hl, Rat.mkRat_mul_mkRat, e64]
    congr 2
    rw [Int.mul_sub, Int.sub_mul]
    omega
end Mx
namespace Mx
open PySem L2
/-! ### soft 1: a voice is on or hushed -/
structure V1 (xs : List Int) (ld : Int) (v : VoiceS) : Prop where
  full : Full v.line xs
  loud : v.loud = ⟨mkRat ld 64, 0, 0⟩
  heard : v.heard = true
  word : v.word = wH ∧ v.part = 0 ∨ v.word = wO
  l0 : 0 ≤ ld
  l1 : ld ≤ 64
  part : Rb 31 v.part
  pS : v.word = wO → Rb 26 v.part
theorem mk0 (n : Nat) : mkRat 0 n = 0 := Rat.zero_mkRat n
theorem mk11 : mkRat 1 1 = 1 := by rfl
theorem V1.ok {xs : List Int} {ld : Int} {v : VoiceS} (h : V1 xs ld v) : VoiceOk 7 1 v := by
  obtain ⟨n1, n2, n3, n4, n5, n6⟩ := wne
  obtain ⟨hf, hl, hh, hw, l0, l1, hp, hS⟩ := h
  refine ⟨hf.ok, ⟨1, ld, 0, ⟨by decide, ?_, ?_, l0, by omega, by omega, by omega, ?_, ?_, ?_⟩, by decide⟩, ?_, fun z => ?_, fun z => ?_, hp, fun z => ?_, fun z => ?_⟩
  · rw [hl]
  · rw [hl, mk0]
  · rw [hl]; exact Int.le_refl 0
  · rw [hl]; show 0 ≤ ld + 0 * 0; omega
  · rw [hl]; show ld + 0 * 0 ≤ _; omega
  · rcases hw with ⟨z, _⟩ | z
    · exact .inl z
    · exact .inr (.inr (.inl z))
  · rcases hw with ⟨e, _⟩ | e
    · exact absurd (e.symm.trans z) n1
    · exact absurd (z.symm.trans e) n4
  · rcases hw with ⟨e, _⟩ | e
    · exact absurd (e.symm.trans z) n3
    · exact absurd (e.symm.trans z) n6
  · rcases hw with ⟨e, _⟩ | e
    · rcases z with z | z
      · exact absurd (e.symm.trans z) n1
      · exact absurd (e.symm.trans z) n2
    · exact hS e
  · rcases hw with ⟨e, _⟩ | e
    · exact absurd (e.symm.trans z) n3
    · exact absurd (e.symm.trans z) n6
theorem V1.give {xs : List Int} {ld : Int} {v : VoiceS} (h : V1 xs ld v) (t : Int) : V1 xs ld (v.give t 1) ∧ (v.give t 1).part = if v.line.ready t = true then v.line.value t * mkRat ld 64 else 0 := by
  obtain ⟨n1, n2, n3, n4, n5, n6⟩ := wne
  have hg := h.ok.give (Int.le_refl 1) (by decide) t
  obtain ⟨hf, hl, hh, hw, l0, l1, hp, hS⟩ := h
  have hon : v.loud.on = v.loud := by
    unfold LoudS.on
    rw [hl]
    rfl
  have hlev : v.loud.level = mkRat ld 64 := by rw [hl]
  have nF : ¬ v.word = wF := by
    rcases hw with ⟨e, _⟩ | e
    · exact fun z => n3 (e.symm.trans z)
    · exact fun z => n6 (e.symm.trans z)
  have hm : v.may t = v.line.ready t := by unfold VoiceS.may; rw [hh]; rfl
  have key : ∀ u : VoiceS, v.give t 1 = u → u.line = v.line → u.loud = v.loud → u.heard = true → (u.word = wH ∧ u.part = 0 ∨ u.word = wO) → V1 xs ld (v.give t 1) := by
    intro u e e1 e2 e3 e4
    rw [e] at hg ⊢
    exact ⟨by rw [e1]; exact hf, by rw [e2]; exact hl, e3, e4, l0, l1, hg.part, fun z => hg.partS (.inr z)⟩
  by_cases hr : v.line.ready t = true
  · rw [if_pos hr]
    have e : v.give t 1 = VoiceS.sound { v with loud := v.loud.on } (v.line.value t * v.loud.on.level) 1 := by
      unfold VoiceS.give
      rw [if_neg nF, if_pos (by rw [hm]; exact hr)]
    rcases hw with ⟨eH, _⟩ | eO
    · have e2 : VoiceS.sound { v with loud := v.loud.on } (v.line.value t * v.loud.on.level) 1 = { v with loud := v.loud.on, word := wO, steps := 1, part := v.line.value t * v.loud.on.level * mkRat 1 1 } := by
        unfold VoiceS.sound
        rw [if_neg (show ¬ v.word = wO from fun z => n2 (eH.symm.trans z)), if_pos (show v.word = wH from eH)]
        rfl
      rw [e2, mk11, hon] at e
      refine ⟨key _ e rfl rfl hh (.inr rfl), ?_⟩
      rw [e, ← hlev]
      show v.line.value t * v.loud.level * 1 = _
      grind
    · have e2 : VoiceS.sound { v with loud := v.loud.on } (v.line.value t * v.loud.on.level) 1 = { v with loud := v.loud.on, part := v.line.value t * v.loud.on.level } := by
        unfold VoiceS.sound
        rw [if_pos (show v.word = wO from eO)]
      rw [e2, hon] at e
      refine ⟨key _ e rfl rfl hh (.inr eO), ?_⟩
      rw [e, ← hlev]
  · rw [if_neg hr]
    rcases hw with ⟨eH, p0⟩ | eO
    · have e : v.give t 1 = { v with loud := v.loud.on } := by
        unfold VoiceS.give
        rw [if_neg nF, if_neg (by rw [hm]; exact hr), if_pos eH]
      rw [hon] at e
      refine ⟨key _ e rfl rfl hh (.inl ⟨eH, p0⟩), ?_⟩
      rw [e]
      exact p0
    · have e : v.give t 1 = VoiceS.beginFall { v with loud := v.loud.on } 1 := by
        unfold VoiceS.give
        rw [if_neg nF, if_neg (by rw [hm]; exact hr), if_neg (fun z => n2 (z.symm.trans eO))]
      have e2 : VoiceS.beginFall { v with loud := v.loud.on } 1 = { v with loud := v.loud.on, word := wH, steps := 1, height := v.part, part := v.part * mkRat 0 1 } := rfl
      rw [e2, hon, mk0] at e
      have pz : v.part * 0 = 0 := by grind
      refine ⟨key _ e rfl rfl hh (.inl ⟨rfl, pz⟩), ?_⟩
      rw [e]
      exact pz
end Mx

namespace Mx
open PySem L2
theorem look_put1' (c : List (Int × Int)) (i x j : Int) : look (put1 c i x) j = if (look c j).isSome = true then look c j else if j = i then some x else none := by
  cases h : look c i with
  | some y =>
    have e : put1 c i x = c := by
      unfold put1
      rw [h]
      rfl
    rw [e]
    cases hj : look c j with
    | some z => rfl
    | none =>
      have : j ≠ i := fun z => by rw [z, h] at hj; cases hj
      simp [this]
  | none =>
    rw [look_put1 h]
    by_cases e : j = i
    · rw [if_pos e, e, h]
      simp
    · rw [if_neg e]
      cases hj : look c j with
      | some z => rfl
      | none => simp [e]
theorem look_putAll : ∀ (ns : List Int) (c : List (Int × Int)) (i j : Int), look (putAll c i ns) j = if (look c j).isSome = true then look c j else if i ≤ j ∧ j < i + (ns.length : Int) then ns[(j - i).toNat]? else none
  | [], c, i, j => by
    show look c j = _
    cases h : look c j with
    | some y => rfl
    | none => rw [if_neg (by decide), if_neg (fun z => by have := z.1; have := z.2; simp at this; omega)]
  | n :: r, c, i, j => by
    show look (putAll (put1 c i n) (i + 1) r) j = _
    rw [look_putAll r, look_put1']
    cases h : look c j with
    | some y => simp
    | none =>
      rw [if_neg (show ¬ (none : Option Int).isSome = true by decide), if_neg (show ¬ (none : Option Int).isSome = true by decide)]
      by_cases e : j = i
      · rw [if_pos e]
        subst e
        rw [if_pos (show (some n).isSome = true from rfl), if_pos ⟨Int.le_refl _, by simp; omega⟩, Int.sub_self]
        rfl
      · rw [if_neg e, if_neg (show ¬ (none : Option Int).isSome = true by decide)]
        by_cases e2 : i + 1 ≤ j ∧ j < i + 1 + (r.length : Int)
        · rw [if_pos e2, if_pos ⟨by omega, by simp; omega⟩]
          have : (j - i).toNat = (j - (i + 1)).toNat + 1 := by omega
          rw [this]
          rfl
        · rw [if_neg e2, if_neg (fun z => e2 ⟨by omega, by have := z.2; simp at this; omega⟩)]
end Mx

namespace Mx
open PySem L2
theorem LoudOk.new {n : Int} (l0 : 0 ≤ n) (l1 : n ≤ 64) : LoudOk 7 ⟨mkRat n 64, 0, 0⟩ :=
  ⟨1, n, 0, ⟨by decide, rfl, by show (0 : Rat) = _; rw [mk0], l0, by omega, by omega, by omega, by show (0 : Int) ≤ 0; decide, by show 0 ≤ n + 0 * 0; omega, by show n + 0 * 0 ≤ _; omega⟩, by decide⟩
theorem Rb0 (n : Nat) : Rb (n + 1) 0 := ⟨by show (0 : Int).natAbs < _; exact Nat.two_pow_pos _, by show 1 < 2 ^ (n + 1); rw [Nat.pow_succ]; have := Nat.two_pow_pos n; omega⟩
theorem new_ok {v : VoiceS} {soft n : Int} (hl : LineOk v.line) (l0 : 0 ≤ n) (l1 : n ≤ 64) (e1 : v.loud = ⟨mkRat n 64, 0, 0⟩) (e2 : v.word = wH) (e3 : v.part = 0) : VoiceOk 7 soft v := by
  obtain ⟨n1, n2, n3, n4, n5, n6⟩ := wne
  refine ⟨hl, by rw [e1]; exact LoudOk.new l0 l1, .inl e2, fun z => ?_, fun z => ?_, by rw [e3]; exact Rb0 30, fun z => ?_, fun z => ?_⟩
  · exact absurd (e2.symm.trans z) n1
  · exact absurd (e2.symm.trans z) n3
  · rcases z with z | z
    · exact absurd (e2.symm.trans z) n1
    · exact absurd (e2.symm.trans z) n2
  · exact absurd (e2.symm.trans z) n3
/-- a comprehension of drawn numbers: what a turn of it does -/
theorem nums_new {K : PySem.W.Frag} {H : Hp} {r sc nu : Addr} {ns : List Int} {lo hi : Int} (hR : RowAt K H r sc ns) (hnu : H nu = none) : ∃ xs : List Int, xs.length = 0 ∧ (∀ n ∈ xs, lo ≤ n ∧ n ≤ hi) ∧ RowAt K (upd H nu (.lst [])) r sc ns ∧ Stp [r] H (upd H nu (.lst [])) ∧ (upd H nu (.lst [])) nu = some (.lst (xs.map V.int)) :=
  ⟨[], rfl, by simp, row_new hR hnu, (Stp.new hnu).sub (by simp), upd_same⟩
theorem nums_next {K : PySem.W.Frag} {H7 H' H9 : Hp} {r sc nu : Addr} {ns xs : List Int} {lo hi v : Int} {j : Nat} (hR7 : RowAt K H7 r sc ns) (hnu : H7 nu = none) (hxl : xs.length = j) (hxn : ∀ n ∈ xs, lo ≤ n ∧ n ≤ hi) (sj : Stp [r] H7 H') (hl : H' nu = some (.lst (xs.map V.int))) (v0 : lo ≤ v) (v1 : v ≤ hi) (hR9 : RowAt K H9 r sc ns) (s9 : Stp [r] H' H9) :
    H9 nu = some (.lst (xs.map V.int)) ∧ ∃ ys : List Int, ys.length = j + 1 ∧ (∀ n ∈ ys, lo ≤ n ∧ n ≤ hi) ∧ RowAt K (upd H9 nu (.lst (xs.map V.int ++ [.int v]))) r sc ns ∧ Stp [r] H7 (upd H9 nu (.lst (xs.map V.int ++ [.int v]))) ∧ (upd H9 nu (.lst (xs.map V.int ++ [.int v]))) nu = some (.lst (ys.map V.int)) := by
  have hnr : nu ≠ r := row_ne hR7 hnu
  obtain ⟨pos, mix, p0, m0, m1, hrr, hscr, hscn⟩ := id hR7
  have h9 := s9.keep _ _ hl (by simpa using hnr)
  have sP := Stp.put (o := .lst (xs.map V.int ++ [.int v])) h9 (fun xs z => nomatch z)
  have sA : Stp [r] H7 (upd H9 nu (.lst (xs.map V.int ++ [.int v]))) := ((sj.trans s9).trans sP).subN fun b hb => by
    simp only [List.mem_append, List.mem_singleton] at hb
    rcases hb with (z | z) | z
    · exact .inl (by simp [z])
    · exact .inl (by simp [z])
    · exact .inr (z ▸ hnu)
  refine ⟨h9, xs ++ [v], ?_, ?_, ?_, sA, ?_⟩
  · rw [List.length_append]
    simp [hxl]
  · intro n hn
    rcases List.mem_append.mp hn with q | q
    · exact hxn n q
    · rw [List.mem_singleton.mp q]
      exact ⟨v0, v1⟩
  · obtain ⟨pos', mix', p0', m0', m1', hr9, _, _⟩ := hR9
    exact ⟨pos', mix', p0', m0', m1', sP.keep _ _ hr9 (by simpa using hnr.symm), seq_or hscr sA hscn, hscn⟩
  · rw [upd_same, List.map_append]
    rfl
end Mx

namespace Mx
open PySem L2
/-! ### a voice with numbers up to a place, the end told or not -/
/-- pace, begin and numbers as they are; how many there are: not told, or as many -/
structure Num (s : LineS) (xs : List Int) : Prop where
  ok : LineOk s
  cov : Cov s.came xs xs.length
  pos : 0 < xs.length
  many : s.many = none ∨ s.many = some (xs.length : Int)
def LineS.full (s : LineS) (xs : List Int) : LineS := { s with many := some (xs.length : Int) }
theorem Num.full {s : LineS} {xs : List Int} (h : Num s xs) : Full (s.full xs) xs := ⟨⟨h.ok.pn0, h.ok.pn1, h.ok.pb0, h.ok.pb1, h.ok.cm, h.ok.len⟩, h.cov, rfl, h.pos⟩
/-- within the numbers the end makes nothing else -/
theorem Num.in_ {s : LineS} {xs : List Int} (h : Num s xs) {t : Int} (ht : s.far t ≤ ((xs.length : Int) - 1) * s.pb) : s.over t = false ∧ s.lacks t = false ∧ s.ready t = s.begun t := by
  have hf := h.full
  have h1 := hf.over t
  have h2 := hf.lacks t
  have e1 : (s.full xs).far t = s.far t := rfl
  have e2 : (s.full xs).pb = s.pb := rfl
  rw [e1, e2, decide_eq_true ht] at h1
  have ho : s.over t = false := by
    rcases h.many with e | e
    · unfold LineS.over
      rw [e]
    · have : s.full xs = s := by
        unfold LineS.full
        rw [← e]
      rw [this] at h1
      exact h1
  have hl : s.lacks t = false := by
    unfold LineS.lacks at h2 ⊢
    rw [h1] at h2
    rw [ho]
    exact h2
  refine ⟨ho, hl, ?_⟩
  unfold LineS.ready
  rw [ho, hl]
  simp
/-- behind them, where the end is told -/
theorem Num.out {s : LineS} {xs : List Int} (h : Num s xs) (hm : s.many = some (xs.length : Int)) {t : Int} (ht : ¬ s.far t ≤ ((xs.length : Int) - 1) * s.pb) : s.lacks t = false ∧ s.ready t = false := by
  have hf := h.full
  have e : s.full xs = s := by
    unfold LineS.full
    rw [← hm]
  rw [e] at hf
  refine ⟨hf.lacks t, ?_⟩
  rw [hf.ready]
  exact decide_eq_false fun z => ht z.2
/-! ### how a voice goes while it may sound, and falls behind -/
theorem give_ready {v : VoiceS} {t soft : Int} (hh : v.heard = true) (hr : v.line.ready t = true) (hw : v.word ≠ wF) : (v.give t soft).word ≠ wF ∧ (v.give t soft).word ≠ wH := by
  obtain ⟨n1, n2, n3, n4, n5, n6⟩ := wne
  have hm : v.may t = true := by unfold VoiceS.may; rw [hh, hr]; rfl
  unfold VoiceS.give
  rw [if_neg hw, if_pos hm]
  unfold VoiceS.sound
  by_cases eO : v.word = wO
  · rw [if_pos eO]
    exact ⟨hw, fun z => n2 (z.symm.trans eO)⟩
  · rw [if_neg eO]
    unfold VoiceS.rise
    by_cases eH : v.word = wH
    · rw [if_pos eH]
      show (if _ then wO else wR) ≠ wF ∧ (if _ then wO else wR) ≠ wH
      split
      · exact ⟨n6, n2.symm⟩
      · exact ⟨n5, n1.symm⟩
    · rw [if_neg eH]
      show (if _ then wO else v.word) ≠ wF ∧ (if _ then wO else v.word) ≠ wH
      split
      · exact ⟨n6, n2.symm⟩
      · exact ⟨hw, eH⟩
theorem give_idle {v : VoiceS} {t soft : Int} (hr : v.line.ready t = false) (hw : v.word = wH) : v.give t soft = { v with loud := v.loud.on } := by
  obtain ⟨n1, n2, n3, n4, n5, n6⟩ := wne
  have hm : v.may t = false := by unfold VoiceS.may; rw [hr]; simp
  unfold VoiceS.give
  rw [if_neg (fun z => n3 (hw.symm.trans z)), if_neg (by rw [hm]; decide), if_pos hw]
/-- j beats behind the last one that it may sound at, from the part p -/
structure Fallen (soft : Int) (p : Rat) (j : Int) (v : VoiceS) : Prop where
  a : j = 0 → v.part = p ∧ v.word ≠ wF ∧ v.word ≠ wH
  b : 0 < j → j < soft → v.word = wF ∧ v.steps = j ∧ v.height = p
  c : soft ≤ j → 0 < j → v.word = wH ∧ v.part = 0
theorem Fallen.next {soft : Int} {p : Rat} {j : Int} {v : VoiceS} (h : Fallen soft p j v) (h1 : 1 ≤ soft) (j0 : 0 ≤ j) {t : Int} (hr : v.line.ready t = false) : Fallen soft p (j + 1) (v.give t soft) ∧ (v.give t soft).part = p * mkRat (max 0 (soft - 1 - j)) soft.toNat := by
  obtain ⟨n1, n2, n3, n4, n5, n6⟩ := wne
  have hm : v.may t = false := by unfold VoiceS.may; rw [hr]; simp
  have fall : ∀ u : VoiceS, u.word = wF → u.steps = j → u.height = p → j < soft → Fallen soft p (j + 1) (u.fall soft) ∧ (u.fall soft).part = p * mkRat (max 0 (soft - 1 - j)) soft.toNat := by
    intro u e1 e2 e3 hj
    have ep : (u.fall soft).part = p * mkRat (max 0 (soft - 1 - j)) soft.toNat := by
      show u.height * mkRat (soft - (u.steps + 1)) soft.toNat = _
      rw [e3, e2, show soft - (j + 1) = max 0 (soft - 1 - j) by omega]
    refine ⟨⟨fun z => by omega, fun _ z => ?_, fun z _ => ?_⟩, ep⟩
    · have : ¬ u.steps + 1 = soft := by omega
      refine ⟨?_, by show u.steps + 1 = j + 1; omega, e3⟩
      show (if u.steps + 1 = soft then wH else u.word) = wF
      rw [if_neg this, e1]
    · have : u.steps + 1 = soft := by omega
      refine ⟨?_, ?_⟩
      · show (if u.steps + 1 = soft then wH else u.word) = wH
        rw [if_pos this]
      · rw [ep, show max 0 (soft - 1 - j) = 0 by omega, mk0]
        grind
  by_cases e0 : j = 0
  · obtain ⟨p0, w1, w2⟩ := h.a e0
    have e : v.give t soft = VoiceS.fall { v with loud := v.loud.on, word := wF, steps := 0, height := v.part } soft := by
      unfold VoiceS.give
      rw [if_neg w1, if_neg (by rw [hm]; decide), if_neg w2]
      rfl
    rw [e]
    exact fall _ rfl e0.symm p0 (by omega)
  · by_cases hj : j < soft
    · obtain ⟨w1, s1, hh⟩ := h.b (by omega) hj
      have e : v.give t soft = VoiceS.fall { v with loud := v.loud.on } soft := by
        unfold VoiceS.give
        rw [if_pos w1]
      rw [e]
      exact fall _ w1 s1 hh hj
    · obtain ⟨w1, p0⟩ := h.c (by omega) (by omega)
      rw [give_idle hr w1]
      refine ⟨⟨fun z => by omega, fun _ z => by omega, fun _ _ => ⟨w1, p0⟩⟩, ?_⟩
      show v.part = _
      rw [p0, show max 0 (soft - 1 - j) = 0 by omega, mk0]
      grind
/-- two voices that differ in whether the end is told go alike where they may sound -/
theorem give_alike {v : VoiceS} {m : Option Int} {t soft : Int} (hr : ({ v.line with many := m } : LineS).ready t = v.line.ready t) : VoiceS.give { v with line := { v.line with many := m } } t soft = { v.give t soft with line := { v.line with many := m } } := by
  have hv : ({ v.line with many := m } : LineS).value t = v.line.value t := rfl
  have hm : VoiceS.may { v with line := { v.line with many := m } } t = v.may t := by
    unfold VoiceS.may
    show (v.heard && _) = _
    rw [hr]
  unfold VoiceS.give
  rw [hm]
  by_cases e1 : v.word = wF
  · rw [if_pos e1, if_pos e1]
    rfl
  · rw [if_neg e1, if_neg e1]
    by_cases e2 : v.may t = true
    · rw [if_pos e2, if_pos e2]
      unfold VoiceS.sound
      by_cases e3 : v.word = wO
      · rw [if_pos e3, if_pos e3]
        rfl
      · rw [if_neg e3, if_neg e3]
        by_cases e4 : v.word = wH
        · rw [if_pos e4, if_pos e4]
          rfl
        · rw [if_neg e4, if_neg e4]
          rfl
    · rw [if_neg e2, if_neg e2]
      by_cases e3 : v.word = wH
      · rw [if_pos e3, if_pos e3]
      · rw [if_neg e3, if_neg e3]
        rfl
theorem give_heard (v : VoiceS) (t soft : Int) : (v.give t soft).heard = v.heard := by
  have hs : ∀ (u : VoiceS) (x : Rat), (u.sound x soft).heard = u.heard := by
    intro u x
    unfold VoiceS.sound
    by_cases e : u.word = wO
    · rw [if_pos e]
    · rw [if_neg e]
      by_cases e2 : u.word = wH
      · rw [if_pos e2]
        rfl
      · rw [if_neg e2]
        rfl
  unfold VoiceS.give
  by_cases e : v.word = wF
  · rw [if_pos e]
    rfl
  · rw [if_neg e]
    by_cases e2 : v.may t = true
    · rw [if_pos e2]
      exact hs _ _
    · rw [if_neg e2]
      by_cases e3 : v.word = wH
      · rw [if_pos e3]
      · rw [if_neg e3]
        rfl
end Mx

namespace Mx
open PySem L2
set_option hygiene false in
local macro_rules | `(tactic| walk_at "rd") => `(tactic| try simp only [L2.start, List.map_cons, List.map_nil, List.length_cons, List.length_nil, Nat.reduceAdd, Nat.reduceSub, Nat.reduceLT, Nat.reduceLeDiff, List.replicate_succ, List.replicate_zero, List.append_nil, List.nil_append, List.cons_append, List.set_cons_zero, List.set_cons_succ, List.getElem?_cons_zero, List.getElem?_cons_succ,
  Option.some.injEq, List.cons.injEq, and_true, true_and, and_assoc, reduceCtorEq, L2.V.int.injEq, L2.V.ref.injEq, L2.V.bl.injEq, L2.V.str.injEq, L2.V.ty.injEq, L2.HO.ins.injEq, L2.HO.lst.injEq, L2.HO.tup.injEq, L2.HO.dK.injEq, exists_eq_left', exists_eq_left, exists_eq_right, exists_eq', exists_eq, exists_and_left, exists_and_right, reduceIte, Bool.false_eq_true, Bool.not_true, Bool.not_false,
  L2.tSeq, L2.tIfS, L2.tRet, L2.tRetN, L2.tNext, L2.tAsg, L2.gName, L2.tVar, L2.tC, L2.tCons, L2.tNil, L2.tCB, L2.tOp, L2.tUn, L2.tTup, L2.tLst, L2.tB, L2.tOr, L2.tAnd, L2.tNot, L2.tAndV, L2.tOrV, L2.tNotV, L2.tIf, L2.tTest, L2.tChain, L2.rI, L2.rI0, L2.rU, L2.tDrop, L2.tNever, L2.tCall, L2.tMeth, L2.tMake, L2.rGcd, L2.tFld, L2.sFld, L2.sFldAug, Mx.sFldA, Mx.sFldAugA, L2.rAdd, L2.rSub, L2.rEq, L2.rNe, L2.tDGet, L2.tDIn, L2.tDNotIn, L2.sDPut,
  Mx.isi_int_bool, Mx.isi_int_int, Mx.isi_int_tuple, Mx.isi_int_list, Mx.isi_int_str, Mx.scal_int, Mx.scal_str, Mx.scal_bl, Mx.ofString_inj, Mx.ofString_beq, Mx.lk_cons, Mx.pf_nil, Mx.pf_cons, Mx.sz1, Mx.sz2, List.lookup_nil, String.reduceEq, decide_true, decide_false, decide_eq_true_eq, Int.natAbs_natCast, L2.upd_same, L2.upd_upd, L2.cxOf, L2.gSub, L2.tPar, L2.gCons, L2.gNil, L2.tBM])
set_option hygiene false in
local macro_rules | `(tactic| walk_at "rds") => `(tactic| try simp only [L2.start, List.map_cons, List.map_nil, List.length_cons, List.length_nil, Nat.reduceAdd, Nat.reduceSub, Nat.reduceLT, Nat.reduceLeDiff, List.replicate_succ, List.replicate_zero, List.append_nil, List.nil_append, List.cons_append, List.set_cons_zero, List.set_cons_succ, List.getElem?_cons_zero, List.getElem?_cons_succ,
  Option.some.injEq, List.cons.injEq, and_true, true_and, and_assoc, reduceCtorEq, L2.V.int.injEq, L2.V.ref.injEq, L2.V.bl.injEq, L2.V.str.injEq, L2.V.ty.injEq, L2.HO.ins.injEq, L2.HO.lst.injEq, L2.HO.tup.injEq, L2.HO.dK.injEq, exists_eq_left', exists_eq_left, exists_eq_right, exists_eq', exists_eq, exists_and_left, exists_and_right, reduceIte, Bool.false_eq_true, Bool.not_true, Bool.not_false,
  L2.tSeq, L2.tIfS, L2.tRet, L2.tRetN, L2.tNext, L2.tAsg, L2.gName, L2.tVar, L2.tC, L2.tCons, L2.tNil, L2.tCB, L2.tOp, L2.tUn, L2.tTup, L2.tLst, L2.tB, L2.tOr, L2.tAnd, L2.tNot, L2.tAndV, L2.tOrV, L2.tNotV, L2.tIf, L2.tTest, L2.tChain, L2.rI, L2.rI0, L2.rU, L2.tDrop, L2.tNever, L2.tCall, L2.tMeth, L2.tMake, L2.rGcd, L2.tFld, L2.sFld, L2.sFldAug, Mx.sFldA, Mx.sFldAugA, L2.rAdd, L2.rSub, L2.rEq, L2.rNe, L2.tDGet, L2.tDIn, L2.tDNotIn, L2.sDPut,
  Mx.isi_int_bool, Mx.isi_int_int, Mx.isi_int_tuple, Mx.isi_int_list, Mx.isi_int_str, Mx.scal_int, Mx.scal_str, Mx.scal_bl, Mx.ofString_inj, Mx.ofString_beq, Mx.lk_cons, Mx.pf_nil, Mx.pf_cons, Mx.sz1, Mx.sz2, List.lookup_nil, String.reduceEq, decide_true, decide_false, decide_eq_true_eq, Int.natAbs_natCast, L2.upd_same, L2.upd_upd, L2.cxOf, L2.gSub, L2.tPar, L2.gCons, L2.gNil, L2.tBM, *])

section
variable {P : Program} {w : World} {K : PySem.W.Frag} {mg : Str → Option Value} {base : Heap}
/-! ### the law's own voice: its line in a dict -/
abbrev kS (x : Str) : Key := Sum.inr x
structure OvL (H : Hp) (d : Addr) (s : LineS) : Prop where
  ex : ∃ (kv kc : List (Key × V)) (tp dc : Addr), H d = some (.dK kv) ∧ valV kv (kS "pace") = some (.ref tp) ∧ H tp = some (.tup [.int s.pn, .int s.pb]) ∧ valV kv (kS "begin") = some (.int s.beg) ∧ valV kv (kS "came") = some (.ref dc) ∧ H dc = some (.dK kc) ∧ (∀ i : Int, (valV kc (Sum.inl i : Key)).isSome = s.has i) ∧ valV kv (kS "many") = some (optV s.many)
theorem OvL.st0 {H H' : Hp} {d : Addr} {s : LineS} (h : OvL H d s) (k : Stp [] H H') : OvL H' d s := by
  obtain ⟨kv, kc, tp, dc, h1, h2, h3, h4, h5, h6, h7, h8⟩ := h
  exact ⟨kv, kc, tp, dc, k.keep _ _ h1 (by simp), h2, k.tup _ _ h3, h4, h5, k.keep _ _ h6 (by simp), h7, h8⟩
theorem dgs {H : Hp} {d : Addr} {kv : List (Key × V)} {x : Str} {v : V} (h : H d = some (.dK kv)) (e : valV kv (kS x) = some v) : DGet H d (.str x) (some v) := by
  have := DGet.k (k := kS x) h
  rw [e] at this
  exact this
def sp_own_places : Sp := fun vs H Q _ => ∃ (d : Addr) (s : LineS) (t : Int), vs = [.ref d, .int t] ∧ OvL H d s ∧ LineOk s ∧ ∀ p l H', H p = none → H l = none → Stp [] H H' → H' p = some (.tup [.ref l, .int (s.rest t)]) → H' l = some (.lst ((s.want t).map V.int)) → Q (.ref p) H'
theorem sc_law_places : FnScope ["_law_v", "_law_beat", "_law_far", "_law_place", "_law_rest"] ["_law_v", "_law_beat"] (defScope s_law_places) := ⟨rfl, rfl, rfl, by decide +kernel, rfl, by decide +kernel, by decide +kernel⟩
theorem ok_law_places {f : Addr} {fd : FuncData} (F : Fun K "_law_places" "_law_places" s_law_places f fd) (B : Blt mg) : FnOk P w K mg base CX0 1 f fd ["_law_v", "_law_beat"] sp_own_places := by
  refine F.ok sc_law_places (fun vs H Q E h => ?_) (fun cdv A outer s H vs Q E hr h => ?_)
  · obtain ⟨d, s, t, rfl, _⟩ := h
    rfl
  · obtain ⟨d, s, t, rfl, hO, hL, k⟩ := h
    have nd := sc_law_places.nd
    have hu := hu_of hr
    refine ⟨_, (pss_cons (ps_set (i := 2) nd rfl (.inl rfl) (pe_op op_mul (pe_op op_sub (pv 1) (pe_dget hu (pv 0) pe_str (fun _ _ => rfl))) (pe_ix ix_tup (pe_dget hu (pv 0) pe_str (fun _ _ => rfl)) pe_int (fun _ _ => rfl))))
      (pss_cons (ps_set (i := 3) nd rfl (.inl rfl) (pe_op op_fdiv (pv 2) (pe_ix ix_tup (pe_dget hu (pv 0) pe_str (fun _ _ => rfl)) pe_int (fun _ _ => rfl))))
      (pss_cons (ps_set (i := 4) nd rfl (.inl rfl) (pe_op op_sub (pv 2) (pe_op op_mul (pv 3) (pe_ix ix_tup (pe_dget hu (pv 0) pe_str (fun _ _ => rfl)) pe_int (fun _ _ => rfl)))))
      (pss_one (ps_ret (pe_tup (pa_cons (pe_op op_cat (pe_lst (pa_cons (pv 3) pa_nil)) (pe_op op_rep (pe_lst (pa_cons (pe_op op_add (pv 3) pe_int) pa_nil)) (pe_callTy call_int1 (by rfl) B.int PyProof.Rows.boot_int (pa_cons (pe_cmpR op_gt (pv 4) pe_int (nomark _)) pa_nil)))) (pa_cons (pv 4) pa_nil)))))))), ?_⟩
    obtain ⟨kv, kc, tp, dc, h1, h2, h3, h4, h5, h6, h7, h8⟩ := hO
    obtain ⟨b1, b2, b3, b4, _, _⟩ := hL
    have gB := dgs h1 h4
    have gP := dgs h1 h2
    have hT : TupAt K H tp [.int s.pn, .int s.pb] := .inl h3
    walk_at "rd"
    have eR : (t - s.beg) * s.pn - (t - s.beg) * s.pn / s.pb * s.pb = s.rest t := by
      unfold LineS.rest
      rw [Int.emod_def, Int.mul_comm s.pb]
    refine ⟨_, gB, _, rfl, _, gP, ixT_0 hT ⟨_, rfl, .inr ⟨by omega, by omega⟩, _, gP, ixT_1 hT ⟨_, rfl, ⟨by omega, by omega⟩, _, gP, ixT_1 hT ⟨_, rfl, .inr ⟨by omega, by omega⟩, fun l1 hl1 l2 hl2 => .inr ?_⟩⟩⟩⟩
    rw [eR]
    have s1 := Stp.new (o := .lst [.int ((t - s.beg) * s.pn / s.pb)]) hl1
    have e1 : upd H l1 (.lst [.int ((t - s.beg) * s.pn / s.pb)]) l1 = some (.lst [.int ((t - s.beg) * s.pn / s.pb)]) := upd_same
    have hn1 : l1 ≠ l2 := ne_of_none e1 hl2
    generalize upd H l1 (.lst [.int ((t - s.beg) * s.pn / s.pb)]) = H1 at *
    have s2 := Stp.new (o := .lst [.int ((t - s.beg) * s.pn / s.pb + 1)]) hl2
    have e2 : upd H1 l2 (.lst [.int ((t - s.beg) * s.pn / s.pb + 1)]) l2 = some (.lst [.int ((t - s.beg) * s.pn / s.pb + 1)]) := upd_same
    have e12 := s2.keep _ _ e1 (by simp)
    generalize upd H1 l2 (.lst [.int ((t - s.beg) * s.pn / s.pb + 1)]) = H2 at *
    have er : (List.replicate (if 0 < s.rest t then (1 : Int) else 0).toNat [V.int ((t - s.beg) * s.pn / s.pb + 1)]).flatten = if s.rest t = 0 then [] else [V.int ((t - s.beg) * s.pn / s.pb + 1)] := by
      have r0 : 0 ≤ s.rest t := Int.emod_nonneg _ (by omega)
      by_cases h0 : s.rest t = 0
      · rw [h0]; rfl
      · rw [if_neg h0, if_pos (by omega)]; rfl
    refine ⟨_, _, _, rfl, rfl, e2, by split <;> decide, by split <;> decide, ?_, fun l3 hl3 => ?_⟩
    · show 1 * _ ≤ _
      split <;> decide
    rw [er]
    have el : (if s.rest t = 0 then [] else [V.int ((t - s.beg) * s.pn / s.pb + 1)]).length ≤ 1 := by split <;> simp
    generalize ez : (if s.rest t = 0 then [] else [V.int ((t - s.beg) * s.pn / s.pb + 1)]) = zs at *
    have s3 := Stp.new (o := .lst zs) hl3
    have e3 : upd H2 l3 (.lst zs) l3 = some (.lst zs) := upd_same
    have e13 := s3.keep _ _ e12 (by simp)
    generalize upd H2 l3 _ = H3 at *
    refine ⟨_, _, _, _, rfl, rfl, e13, e3, by rw [List.length_singleton]; exact Nat.le_trans (Nat.add_le_add_left el 1) (by decide), fun l4 hl4 => ?_⟩
    have ew : [V.int ((t - s.beg) * s.pn / s.pb)] ++ zs = (s.want t).map V.int := by
      rw [← ez]
      unfold LineS.want LineS.low
      split <;> rfl
    rw [ew]
    have s4 := Stp.new (o := .lst ((s.want t).map V.int)) hl4
    have e4 : upd H3 l4 (.lst ((s.want t).map V.int)) l4 = _ := upd_same
    generalize upd H3 l4 _ = H4 at *
    intro p hp
    have s5 := Stp.new (o := .tup [.ref l4, .int (s.rest t)]) hp
    have e5 : upd H4 p (.tup [.ref l4, .int (s.rest t)]) p = _ := upd_same
    have s0 := s1.trans (s2.trans (s3.trans s4))
    refine k p l4 _ (s0.free hp (by simp)) ((s1.trans (s2.trans s3)).free hl4 (by simp)) (s0.trans s5) e5 (s5.keep _ _ e4 (by simp))
end
end Mx

namespace Mx
open PySem L2
set_option hygiene false in
local macro_rules | `(tactic| walk_at "rd") => `(tactic| try simp only [L2.start, List.map_cons, List.map_nil, List.length_cons, List.length_nil, Nat.reduceAdd, Nat.reduceSub, Nat.reduceLT, Nat.reduceLeDiff, List.replicate_succ, List.replicate_zero, List.append_nil, List.nil_append, List.cons_append, List.set_cons_zero, List.set_cons_succ, List.getElem?_cons_zero, List.getElem?_cons_succ,
  Option.some.injEq, List.cons.injEq, and_true, true_and, and_assoc, reduceCtorEq, L2.V.int.injEq, L2.V.ref.injEq, L2.V.bl.injEq, L2.V.str.injEq, L2.V.ty.injEq, L2.HO.ins.injEq, L2.HO.lst.injEq, L2.HO.tup.injEq, L2.HO.dK.injEq, exists_eq_left', exists_eq_left, exists_eq_right, exists_eq', exists_eq, exists_and_left, exists_and_right, reduceIte, Bool.false_eq_true, Bool.not_true, Bool.not_false,
  L2.tSeq, L2.tIfS, L2.tRet, L2.tRetN, L2.tNext, L2.tAsg, L2.gName, L2.tVar, L2.tC, L2.tCons, L2.tNil, L2.tCB, L2.tOp, L2.tUn, L2.tTup, L2.tLst, L2.tB, L2.tOr, L2.tAnd, L2.tNot, L2.tAndV, L2.tOrV, L2.tNotV, L2.tIf, L2.tTest, L2.tChain, L2.rI, L2.rI0, L2.rU, L2.tDrop, L2.tNever, L2.tCall, L2.tMeth, L2.tMake, L2.rGcd, L2.tFld, L2.sFld, L2.sFldAug, Mx.sFldA, Mx.sFldAugA, L2.rAdd, L2.rSub, L2.rEq, L2.rNe, L2.tDGet, L2.tDIn, L2.tDNotIn, L2.sDPut,
  Mx.isi_int_bool, Mx.isi_int_int, Mx.isi_int_tuple, Mx.isi_int_list, Mx.isi_int_str, Mx.scal_int, Mx.scal_str, Mx.scal_bl, Mx.ofString_inj, Mx.ofString_beq, Mx.lk_cons, Mx.pf_nil, Mx.pf_cons, Mx.sz1, Mx.sz2, List.lookup_nil, String.reduceEq, decide_true, decide_false, decide_eq_true_eq, Int.natAbs_natCast, L2.upd_same, L2.upd_upd, L2.cxOf, L2.gSub, L2.tPar, L2.gCons, L2.gNil, L2.tBM, Mx.optV])
set_option hygiene false in
local macro_rules | `(tactic| walk_at "rds") => `(tactic| try simp only [L2.start, List.map_cons, List.map_nil, List.length_cons, List.length_nil, Nat.reduceAdd, Nat.reduceSub, Nat.reduceLT, Nat.reduceLeDiff, List.replicate_succ, List.replicate_zero, List.append_nil, List.nil_append, List.cons_append, List.set_cons_zero, List.set_cons_succ, List.getElem?_cons_zero, List.getElem?_cons_succ,
  Option.some.injEq, List.cons.injEq, and_true, true_and, and_assoc, reduceCtorEq, L2.V.int.injEq, L2.V.ref.injEq, L2.V.bl.injEq, L2.V.str.injEq, L2.V.ty.injEq, L2.HO.ins.injEq, L2.HO.lst.injEq, L2.HO.tup.injEq, L2.HO.dK.injEq, exists_eq_left', exists_eq_left, exists_eq_right, exists_eq', exists_eq, exists_and_left, exists_and_right, reduceIte, Bool.false_eq_true, Bool.not_true, Bool.not_false,
  L2.tSeq, L2.tIfS, L2.tRet, L2.tRetN, L2.tNext, L2.tAsg, L2.gName, L2.tVar, L2.tC, L2.tCons, L2.tNil, L2.tCB, L2.tOp, L2.tUn, L2.tTup, L2.tLst, L2.tB, L2.tOr, L2.tAnd, L2.tNot, L2.tAndV, L2.tOrV, L2.tNotV, L2.tIf, L2.tTest, L2.tChain, L2.rI, L2.rI0, L2.rU, L2.tDrop, L2.tNever, L2.tCall, L2.tMeth, L2.tMake, L2.rGcd, L2.tFld, L2.sFld, L2.sFldAug, Mx.sFldA, Mx.sFldAugA, L2.rAdd, L2.rSub, L2.rEq, L2.rNe, L2.tDGet, L2.tDIn, L2.tDNotIn, L2.sDPut,
  Mx.isi_int_bool, Mx.isi_int_int, Mx.isi_int_tuple, Mx.isi_int_list, Mx.isi_int_str, Mx.scal_int, Mx.scal_str, Mx.scal_bl, Mx.ofString_inj, Mx.ofString_beq, Mx.lk_cons, Mx.pf_nil, Mx.pf_cons, Mx.sz1, Mx.sz2, List.lookup_nil, String.reduceEq, decide_true, decide_false, decide_eq_true_eq, Int.natAbs_natCast, L2.upd_same, L2.upd_upd, L2.cxOf, L2.gSub, L2.tPar, L2.gCons, L2.gNil, L2.tBM, Mx.optV, *])

section
variable {P : Program} {w : World} {K : PySem.W.Frag} {mg : Str → Option Value} {base : Heap}
def sp_own_bool (g : LineS → Int → Bool) : Sp := fun vs H Q _ => ∃ (d : Addr) (s : LineS) (t : Int), vs = [.ref d, .int t] ∧ OvL H d s ∧ LineOk s ∧ ∀ H', Stp [] H H' → Q (.bl (g s t)) H'
theorem lc_filtM {i : Nat} {tl te : TE} {tt : TT} {σ : L2.St} {H : Hp} {Q : VK} (p : V → Bool) (Pr : Addr → List V → Hp → Prop) (htl : ∀ R : VK, (∀ a xs H', Pr a xs H' → R (.ref a) H') → tl σ H R)
    (h : ∀ a xs H', Pr a xs H' → SqL K H' a xs ∧ xs.length ≤ 100000 ∧ (∀ x ∈ xs, ∀ (H2 : Hp) (Q' : Bool → Hp → Prop), Stp [] H' H2 → Q' (p x) H2 → tt ((wipe σ [i]).set i (some x)) H2 Q') ∧
      (∀ x ∈ xs, p x = true → ∀ (H2 : Hp) (Q' : VK), Stp [] H' H2 → Q' x H2 → te ((wipe σ [i]).set i (some x)) H2 Q') ∧ ∀ D H2, H' D = none → Stp [] H' H2 → H2 D = some (.lst (xs.filter p)) → Q (.ref D) H2) :
    tLc (iList K tl) (gName i) tt te [i] σ H Q := htl _ fun a xs H' hp => by
  obtain ⟨hl, hn, h1, h2, k⟩ := h a xs H' hp
  exact ⟨a, rfl, ⟨_, hl⟩, lc_pureF (H9 := H) (Q := Q) p hl hn h1 h2 k⟩
theorem want_max {s : LineS} {t m : Int} (h : m ∈ s.want t) (g : ∀ y ∈ s.want t, y ≤ m) : m = s.last t := by
  unfold LineS.want at h g
  unfold LineS.last
  split at h
  · rename_i e
    rw [if_pos e]
    simpa using h
  · rename_i e
    rw [if_neg e]
    rw [if_neg e] at g
    have h1 := g (s.low t + 1) (by simp)
    have h2 : m = s.low t ∨ m = s.low t + 1 := by simpa using h
    omega
theorem sc_law_is_over : FnScope ["_law_v", "_law_beat"] ["_law_v", "_law_beat"] (defScope s_law_is_over) := ⟨rfl, rfl, rfl, by decide +kernel, rfl, by decide +kernel, by decide +kernel⟩
theorem ok_law_is_over {f : Addr} {fd : FuncData} (F : Fun K "_law_is_over" "_law_is_over" s_law_is_over f fd) (B : Blt mg) (GP : OwnF P w K mg base "_law_places" 1 ["_law_v", "_law_beat"] sp_own_places) : FnOk P w K mg base CX0 2 f fd ["_law_v", "_law_beat"] (sp_own_bool LineS.over) := by
  refine F.ok sc_law_is_over (fun vs H Q E h => ?_) (fun cdv A outer s H vs Q E hr h => ?_)
  · obtain ⟨d, s, t, rfl, _⟩ := h
    rfl
  · obtain ⟨d, s, t, rfl, hO, hL, k⟩ := h
    have nd := sc_law_is_over.nd
    have hu := hu_of hr
    refine ⟨_, (pss_one (ps_ret (pe_and (pe_cmpR op_notN (pe_dget hu (pv 0) pe_str (fun _ _ => rfl)) pe_non (nomark _)) (pe_one (pe_cmpR op_ge (pe_callB (cr_max rfl) (by rfl) B.max PyProof.Rows.boot_max (pa_cons (pe_ix ix_tup (p_call GP hr (pa_cons (pv 0) (pa_cons (pv 1) pa_nil))) pe_int (fun _ _ => rfl)) pa_nil)) (pe_dget hu (pv 0) pe_str (fun _ _ => rfl)) (nomark _)))))), ?_⟩
    obtain ⟨kv, kc, tp, dc, h1, h2, h3, h4, h5, h6, h7, h8⟩ := id hO
    have gM := dgs h1 h8
    unfold LineS.over at k
    cases e : s.many with
    | none =>
      rw [e] at k gM
      walk_at "rd"
      refine ⟨_, gM, ?_⟩
      walk_at "rd"
      exact k H Stp.refl
    | some m =>
      rw [e] at k gM
      walk_at "rd"
      refine ⟨_, gM, ?_⟩
      walk_at "rd"
      refine ⟨d, s, t, rfl, hO, hL, fun p l H1 hp hl st g1 g2 => ?_⟩
      refine ixT_0 (.inl g1) ⟨l, s.want t, rfl, .inl (.inl g2), by unfold LineS.want; split <;> simp, fun y hy hm => ?_⟩
      rw [want_max hy hm]
      refine ⟨_, dgs (st.keep _ _ h1 (by simp)) (by rw [h8, e]), ?_⟩
      have := k H1 st
      walk_at "rd" <;> exact this
theorem sc_law_lacks : FnScope ["_law_v", "_law_beat", "_law_place"] ["_law_v", "_law_beat"] (defScope s_law_lacks) := ⟨rfl, rfl, rfl, by decide +kernel, rfl, by decide +kernel, by decide +kernel⟩
abbrev NLk : List Str := ["_law_v", "_law_beat", "_law_place"]
theorem ok_law_lacks {f : Addr} {fd : FuncData} (F : Fun K "_law_lacks" "_law_lacks" s_law_lacks f fd) (B : Blt mg) (GP : OwnF P w K mg base "_law_places" 1 ["_law_v", "_law_beat"] sp_own_places) (GO : OwnF P w K mg base "_law_is_over" 2 ["_law_v", "_law_beat"] (sp_own_bool LineS.over)) : FnOk P w K mg base CX0 3 f fd ["_law_v", "_law_beat"] (sp_own_bool LineS.lacks) := by
  refine F.ok sc_law_lacks (fun vs H Q E h => ?_) (fun cdv A outer s0 H vs Q E hr h => ?_)
  · obtain ⟨d, s, t, rfl, _⟩ := h
    rfl
  · obtain ⟨d, s, t, rfl, hO, hL, k⟩ := h
    have nd := sc_law_lacks.nd
    have hu := hu_of hr
    have hu64 : (A.deeper (PyProof.Rows.envOfC "_law_lacks" (defScope s_law_lacks) s0.heap.objs.size f cdv)).units + 64 < cLine := by
      have := hr.un
      omega
    refine ⟨_, (pss_cons (ps_if (PW.pt (pw_or (pt_cmpR op_lt (pv 1) (pe_dget hu (pv 0) pe_str (fun _ _ => rfl)) (nomark _)) (pw_or1 (pt_val (p_call GO hr (pa_cons (pv 0) (pa_cons (pv 1) pa_nil))))))) (pss_one (ps_ret pe_bl)) pss_nil)
      (pss_one (ps_ret (pe_cmpR (op_neD hu64) (pe_lc (own := [("_law_place", 2)]) (tt := tB (tDNotIn (tVar 2) (tDGet (tVar 0) (tC (.str "came"))))) (te := tVar 2) rfl nd (pi_list (pe_ix ix_tup (p_call GP (hr.mono (by decide)) (pa_cons (pv 0) (pa_cons (pv 1) pa_nil))) pe_int (fun _ _ => rfl))) (blkOk_by (N := NLk) (sc := defScope s_law_lacks) (by decide +kernel)) (fun _ _ _ _ _ => pg_name (i := 2) nd rfl (.inl rfl)) (fun _ _ _ _ _ => pts_one (pt_cmp (pc_dnotin hu (pv 2) (pe_dget hu (pv 0) pe_str (fun _ _ => rfl))))) (fun _ _ _ _ _ => pv 2)) (pe_lst pa_nil) (nomark _))))), ?_⟩
    obtain ⟨kv, kc, tp, dc, h1, h2, h3, h4, h5, h6, h7, h8⟩ := id hO
    have gB := dgs h1 h4
    walk_at "rd"
    refine ⟨_, gB, _, rfl, ?_⟩
    unfold LineS.lacks LineS.begun at k
    by_cases hb : t < s.beg
    · rw [if_pos hb]
      rw [decide_eq_false (by omega)] at k
      exact k H Stp.refl
    rw [if_neg hb]
    rw [decide_eq_true (by omega)] at k
    refine ⟨d, s, t, rfl, hO, hL, fun H1 st1 => ⟨_, rfl, ?_⟩⟩
    cases eo : s.over t with
    | true =>
      rw [if_pos rfl]
      rw [eo] at k
      exact k H1 st1
    | false =>
      rw [if_neg (by simp)]
      rw [eo] at k
      refine lc_filtM (fun x => match x with | .int i => !s.has i | _ => false) (fun a xs H2 => xs = (s.want t).map V.int ∧ H2 a = some (.lst xs) ∧ Stp [] H1 H2) (fun R hR => ?_) fun a xs H2 hP => ?_
      · walk_at "rd"
        refine ⟨d, s, t, rfl, hO.st0 st1, hL, fun p l H2 hp hl st g1 g2 => ?_⟩
        exact ixT_0 (.inl g1) (hR l _ H2 ⟨rfl, g2, st⟩)
      · obtain ⟨rfl, hl, st2⟩ := hP
        have h16 := (st1.trans st2).keep _ _ h1 (by simp)
        have h66 := (st1.trans st2).keep _ _ h6 (by simp)
        refine ⟨.inl (.inl hl), ?_, fun x hx H3 Q' st q => ?_, fun x hx _ H3 Q' st q => ?_, fun D H3 hD st hl3 => ?_⟩
        · rw [List.length_map]
          unfold LineS.want
          split <;> simp
        · obtain ⟨i, hi, rfl⟩ := List.mem_map.mp hx
          refine ⟨_, rfl, ⟨_, rfl, d, _, rfl, dgs (st.keep _ _ h16 (by simp)) h5, dc, _, rfl, DGet.k (k := Sum.inl i) (st.keep _ _ h66 (by simp)), _, rfl, ?_⟩⟩
          rw [h7]
          exact q
        · exact ⟨_, rfl, q⟩
        · refine ⟨Nat.zero_le _, fun p hp => ?_⟩
          have s4 := Stp.new (o := .lst []) hp
          have ef : ((s.want t).map V.int).filter (fun x => match x with | .int i => !s.has i | _ => false) = ((s.want t).filter fun i => !s.has i).map V.int := by
            rw [List.filter_map]
            rfl
          rw [ef] at hl3
          refine ne_nilL (n := 0) (s4.keep _ _ hl3 (by simp)) upd_same (ints_refl _) (by decide) ?_
          have e : (!(((s.want t).filter fun i => !s.has i).map V.int).isEmpty) = (s.want t).any fun i => !s.has i := by
            rw [List.isEmpty_map]
            generalize s.want t = l
            induction l with
            | nil => rfl
            | cons i r ih =>
              rw [List.filter_cons, List.any_cons]
              cases s.has i <;> simp [ih]
          rw [e]
          have := k _ ((st1.trans st2).trans (st.trans s4))
          simpa using this
end
end Mx

namespace Mx
open PySem L2
/-! ### a mixer, and beside it the law's own voices -/
abbrev WD := Int → Addr × Addr
def vkv (vs : List MV) (W : WD) : List (Key × V) := vs.map fun e => (Sum.inl e.1, V.ref (W e.1).1)
def OvC (H : Hp) (d c : Addr) (s : LineS) (B : Nat) : Prop := ∃ (kv kc : List (Key × V)) (tp : Addr), H d = some (.dK kv) ∧ valV kv (kS "pace") = some (.ref tp) ∧ H tp = some (.tup [.int s.pn, .int s.pb]) ∧ valV kv (kS "begin") = some (.int s.beg) ∧ valV kv (kS "came") = some (.ref c) ∧ H c = some (.dK kc) ∧
  (∀ i : Int, (valV kc (Sum.inl i : Key)).isSome = s.has i) ∧ valV kv (kS "many") = some (optV s.many) ∧ kc.length ≤ B ∧ kv.length ≤ 20
theorem OvC.ov {H : Hp} {d c : Addr} {s : LineS} {B : Nat} (h : OvC H d c s B) : OvL H d s := by
  obtain ⟨kv, kc, tp, h1, h2, h3, h4, h5, h6, h7, h8, _, _⟩ := h
  exact ⟨kv, kc, tp, c, h1, h2, h3, h4, h5, h6, h7, h8⟩
theorem OvC.st {F : List Addr} {H H' : Hp} {d c : Addr} {s : LineS} {B : Nat} (h : OvC H d c s B) (g : Stp F H H') (n1 : d ∉ F) (n2 : c ∉ F) : OvC H' d c s B := by
  obtain ⟨kv, kc, tp, h1, h2, h3, h4, h5, h6, h7, h8, h9, h10⟩ := h
  exact ⟨kv, kc, tp, g.keep _ _ h1 n1, h2, g.tup _ _ h3, h4, h5, g.keep _ _ h6 n2, h7, h8, h9, h10⟩
theorem OvC.up {H : Hp} {d c : Addr} {s : LineS} {B B' : Nat} (h : OvC H d c s B) (l : B ≤ B') : OvC H d c s B' := by
  obtain ⟨kv, kc, tp, h1, h2, h3, h4, h5, h6, h7, h8, h9, h10⟩ := h
  exact ⟨kv, kc, tp, h1, h2, h3, h4, h5, h6, h7, h8, Nat.le_trans h9 l, h10⟩
theorem OvC.ex {H : Hp} {d c : Addr} {s : LineS} {B : Nat} (h : OvC H d c s B) : H d ≠ none ∧ H c ≠ none := by
  obtain ⟨kv, kc, tp, h1, h2, h3, h4, h5, h6, h7, h8, h9, h10⟩ := h
  rw [h1, h6]
  exact ⟨nofun, nofun⟩
structure Bth (K : PySem.W.Frag) (cs : Cs) (H : Hp) (m d k : Addr) (s : MixS) (W : WD) (B : Nat) (X : List Addr) : Prop where
  mix : MixAt K cs H m d k s
  ov : ∀ e ∈ s.vs, OvC H (W e.1).1 (W e.1).2 e.2.2.line B
  ap : ∀ e ∈ s.vs, (W e.1).1 ∉ s.foot m d k ∧ (W e.1).2 ∉ s.foot m d k
  xa : ∀ b ∈ X, b ∉ s.foot m d k ∧ ∀ e ∈ s.vs, b ≠ (W e.1).1 ∧ b ≠ (W e.1).2
  dj : ∀ e ∈ s.vs, ∀ f ∈ s.vs, (W e.1).1 ≠ (W f.1).2 ∧ (e.1 ≠ f.1 → (W e.1).1 ≠ (W f.1).1 ∧ (W e.1).2 ≠ (W f.1).2)
  ok : ∀ e ∈ s.vs, VoiceOk 7 s.soft e.2.2 ∧ e.2.2.line.came.length ≤ B ∧ (∀ n, e.2.2.line.many = some n → 1 ≤ n ∧ n ≤ 60) ∧ 0 ≤ e.1 ∧ e.1 ≤ 5
  so : 1 ≤ s.soft ∧ s.soft ≤ 16
section
variable {K : PySem.W.Frag} {cs : Cs} {H H' : Hp} {m d k : Addr} {s : MixS} {W : WD} {B : Nat} {X F : List Addr}
theorem mem_foot {e : MV} (he : e ∈ s.vs) {b : Addr} (hb : b ∈ e.2.1.foot) : b ∈ s.foot m d k := by
  unfold MixS.foot
  exact List.mem_cons_of_mem _ (List.mem_cons_of_mem _ (List.mem_cons_of_mem _ (List.mem_flatMap.mpr ⟨e, he, hb⟩)))
theorem Bth.stX (h : Bth K cs H m d k s W B X) (g : Stp F H H') (hF : ∀ b ∈ F, b ∈ X) : Bth K cs H' m d k s W B X := by
  obtain ⟨h1, h2, h3, h4, h5, h6, h7⟩ := h
  refine ⟨h1.st g fun b hb z => (h4 b (hF b z)).1 hb, fun e he => (h2 e he).st g (fun z => ((h4 _ (hF _ z)).2 e he).1 rfl) (fun z => ((h4 _ (hF _ z)).2 e he).2 rfl), h3, h4, h5, h6, h7⟩
theorem Bth.st0 (h : Bth K cs H m d k s W B X) (g : Stp [] H H') : Bth K cs H' m d k s W B X := h.stX g (by simp)
theorem foot_set (m d k : Addr) (s : MixS) (n : Int) (v : VoiceS) : MixS.foot m d k { s with vs := setV s.vs n v } = MixS.foot m d k s := by
  unfold MixS.foot
  rw [setV_foot]
theorem Bth.turn (h : Bth K cs H m d k s W B X) {e : MV} (he : e ∈ s.vs) {v : VoiceS} {B' : Nat} (g : Stp F H H') (hF : ∀ b ∈ F, b ∈ e.2.1.foot ∨ b = (W e.1).1 ∨ b = (W e.1).2) (mix' : MixAt K cs H' m d k { s with vs := setV s.vs e.1 v })
    (ov' : OvC H' (W e.1).1 (W e.1).2 v.line B') (hB : B ≤ B') (o1 : VoiceOk 7 s.soft v) (o2 : v.line.came.length ≤ B') (o3 : ∀ n, v.line.many = some n → 1 ≤ n ∧ n ≤ 60) : Bth K cs H' m d k { s with vs := setV s.vs e.1 v } W B' X := by
  obtain ⟨h1, h2, h3, h4, h5, h6, h7⟩ := h
  have hnF : ∀ f ∈ s.vs, f.1 ≠ e.1 → (W f.1).1 ∉ F ∧ (W f.1).2 ∉ F := fun f hf hn => by
    refine ⟨fun z => ?_, fun z => ?_⟩
    · rcases hF _ z with q | q | q
      · exact (h3 f hf).1 (mem_foot he q)
      · exact ((h5 f hf e he).2 hn).1 q
      · exact (h5 f hf e he).1 q
    · rcases hF _ z with q | q | q
      · exact (h3 f hf).2 (mem_foot he q)
      · exact (h5 e he f hf).1 q.symm
      · exact ((h5 f hf e he).2 hn).2 q
  refine ⟨mix', fun f hf => ?_, fun f hf => ?_, fun b hb => ⟨?_, fun f hf => ?_⟩, fun f hf g' hg => ?_, fun f hf => ?_, h7⟩
  · obtain ⟨e', he', e1, e2, c⟩ := setV_mem hf
    rcases c with ⟨c1, c2⟩ | ⟨c1, c2⟩
    · rw [c1, c2]
      exact ov'
    · rw [c2]
      have hn := hnF e' he' (by rw [e1]; exact c1)
      exact ((h2 e' he').st g hn.1 hn.2).up hB
  · obtain ⟨e', he', e1, e2, _⟩ := setV_mem hf
    rw [foot_set, ← e1]
    exact h3 e' he'
  · rw [foot_set]
    exact (h4 b hb).1
  · obtain ⟨e', he', e1, e2, _⟩ := setV_mem hf
    rw [← e1]
    exact (h4 b hb).2 e' he'
  · obtain ⟨e', he', e1, _, _⟩ := setV_mem hf
    obtain ⟨e'', he'', e1', _, _⟩ := setV_mem hg
    rw [← e1, ← e1']
    exact h5 e' he' e'' he''
  · obtain ⟨e', he', e1, e2, c⟩ := setV_mem hf
    rcases c with ⟨c1, c2⟩ | ⟨c1, c2⟩
    · rw [c1, c2]
      exact ⟨o1, o2, o3, (h6 e he).2.2.2⟩
    · rw [c2]
      obtain ⟨q1, q2, q3⟩ := h6 e' he'
      exact ⟨q1, Nat.le_trans q2 hB, q3⟩
theorem foot_beat (m d k : Addr) (s : MixS) (ys : List Int) : MixS.foot m d k (s.beat ys) = MixS.foot m d k s := by
  unfold MixS.foot MixS.beat
  show m :: d :: k :: (s.vs.map s.step).flatMap _ = _
  rw [List.flatMap_map]
  rfl
theorem Bth.beat (h : Bth K cs H m d k s W B X) {ys : List Int} (g : Stp (s.foot m d k) H H') (mix' : MixAt K cs H' m d k (s.beat ys)) : Bth K cs H' m d k (s.beat ys) W B X := by
  obtain ⟨h1, h2, h3, h4, h5, h6, h7⟩ := h
  have hm : ∀ f ∈ (s.beat ys).vs, ∃ e ∈ s.vs, f = s.step e := fun f hf => by
    obtain ⟨e, he, q⟩ := List.mem_map.mp hf
    exact ⟨e, he, q.symm⟩
  refine ⟨mix', fun f hf => ?_, fun f hf => ?_, fun b hb => ⟨?_, fun f hf => ?_⟩, fun f hf g' hg => ?_, fun f hf => ?_, h7⟩
  · obtain ⟨e, he, rfl⟩ := hm f hf
    show OvC H' (W e.1).1 (W e.1).2 (e.2.2.give s.coming s.soft).line B
    rw [give_line]
    exact (h2 e he).st g (h3 e he).1 (h3 e he).2
  · obtain ⟨e, he, rfl⟩ := hm f hf
    rw [foot_beat]
    exact h3 e he
  · rw [foot_beat]
    exact (h4 b hb).1
  · obtain ⟨e, he, rfl⟩ := hm f hf
    exact (h4 b hb).2 e he
  · obtain ⟨e, he, rfl⟩ := hm f hf
    obtain ⟨e', he', rfl⟩ := hm g' hg
    exact h5 e he e' he'
  · obtain ⟨e, he, rfl⟩ := hm f hf
    obtain ⟨q1, q2, q3, q4⟩ := h6 e he
    have el : (s.step e).2.2.line = e.2.2.line := give_line _ _ _
    refine ⟨q1.give h7.1 h7.2 _, ?_, ?_, q4⟩
    · rw [el]; exact q2
    · rw [el]; exact q3
def WD.put (W : WD) (n : Int) (p : Addr × Addr) : WD := fun i => if i = n then p else W i
theorem foot_more (m d k : Addr) (s : MixS) (e : MV) : MixS.foot m d k { s with vs := s.vs ++ [e] } = MixS.foot m d k s ++ e.2.1.foot := by
  unfold MixS.foot
  show m :: d :: k :: (s.vs ++ [e]).flatMap _ = _
  rw [List.flatMap_append]
  simp
theorem Bth.add (h : Bth K cs H m d k s W B X) {n : Int} {A : VA} {v : VoiceS} {D C : Addr} (hn : n ∉ s.vs.map (·.1)) (g : Stp F H H') (hF : ∀ b ∈ F, b ∈ s.foot m d k ∨ b ∈ X) (mix' : MixAt K cs H' m d k { s with vs := s.vs ++ [(n, A, v)] }) (hA : ∀ b ∈ A.foot, H b = none)
    (hD : H D = none) (hC : H C = none) (hDA : D ∉ A.foot) (hCA : C ∉ A.foot) (hDC : D ≠ C) (ov' : OvC H' D C v.line B) (hX : ∀ b ∈ X, H b ≠ none)
    (o1 : VoiceOk 7 s.soft v) (o2 : v.line.came.length ≤ B) (o3 : ∀ n, v.line.many = some n → 1 ≤ n ∧ n ≤ 60) (o4 : 0 ≤ n ∧ n ≤ 5) : Bth K cs H' m d k { s with vs := s.vs ++ [(n, A, v)] } (W.put n (D, C)) B X := by
  obtain ⟨h1, h2, h3, h4, h5, h6, h7⟩ := h
  have hold : ∀ e ∈ s.vs, W.put n (D, C) e.1 = W e.1 := fun e he => if_neg fun z => hn (List.mem_map.mpr ⟨e, he, z⟩)
  have hnew : W.put n (D, C) n = (D, C) := if_pos rfl
  have hnF : ∀ e ∈ s.vs, (W e.1).1 ∉ F ∧ (W e.1).2 ∉ F := fun e he => by
    refine ⟨fun z => ?_, fun z => ?_⟩
    · rcases hF _ z with q | q
      · exact (h3 e he).1 q
      · exact ((h4 _ q).2 e he).1 rfl
    · rcases hF _ z with q | q
      · exact (h3 e he).2 q
      · exact ((h4 _ q).2 e he).2 rfl
  have hs := h1.some
  have hfr : ∀ b, H b = none → b ∉ s.foot m d k := fun b hb z => hs b z hb
  have hmm : ∀ f ∈ s.vs ++ [(n, A, v)], f ∈ s.vs ∨ f = (n, A, v) := fun f hf => by simpa using hf
  refine ⟨mix', fun f hf => ?_, fun f hf => ?_, fun b hb => ⟨?_, fun f hf => ?_⟩, fun f hf g' hg => ?_, fun f hf => ?_, h7⟩
  · rcases hmm f hf with q | rfl
    · rw [hold f q]
      exact (h2 f q).st g (hnF f q).1 (hnF f q).2
    · rw [show (n, A, v).1 = n from rfl, hnew]
      exact ov'
  · rw [foot_more]
    rcases hmm f hf with q | rfl
    · rw [hold f q]
      have hx := (h2 f q).ex
      refine ⟨fun z => ?_, fun z => ?_⟩
      · rcases List.mem_append.mp z with z | z
        · exact (h3 f q).1 z
        · exact hx.1 (hA _ z)
      · rcases List.mem_append.mp z with z | z
        · exact (h3 f q).2 z
        · exact hx.2 (hA _ z)
    · rw [show (n, A, v).1 = n from rfl, hnew]
      refine ⟨fun z => ?_, fun z => ?_⟩
      · rcases List.mem_append.mp z with z | z
        · exact hfr _ hD z
        · exact hDA z
      · rcases List.mem_append.mp z with z | z
        · exact hfr _ hC z
        · exact hCA z
  · rw [foot_more]
    intro z
    rcases List.mem_append.mp z with z | z
    · exact (h4 b hb).1 z
    · exact hX b hb (hA _ z)
  · rcases hmm f hf with q | rfl
    · rw [hold f q]
      exact (h4 b hb).2 f q
    · rw [show (n, A, v).1 = n from rfl, hnew]
      exact ⟨fun z => hX b hb (z ▸ hD), fun z => hX b hb (z ▸ hC)⟩
  · rcases hmm f hf with q | rfl <;> rcases hmm g' hg with q' | rfl
    · rw [hold f q, hold g' q']
      exact h5 f q g' q'
    · rw [hold f q, show (n, A, v).1 = n from rfl, hnew]
      have hx := (h2 f q).ex
      exact ⟨fun z => hx.1 (z ▸ hC), fun _ => ⟨fun z => hx.1 (z ▸ hD), fun z => hx.2 (z ▸ hC)⟩⟩
    · rw [hold g' q', show (n, A, v).1 = n from rfl, hnew]
      have hx := (h2 g' q').ex
      exact ⟨fun z => hx.2 (z ▸ hD), fun _ => ⟨fun z => hx.1 (z ▸ hD), fun z => hx.2 (z ▸ hC)⟩⟩
    · rw [show (n, A, v).1 = n from rfl, hnew]
      exact ⟨hDC, fun z => absurd rfl z⟩
  · rcases hmm f hf with q | rfl
    · exact h6 f q
    · exact ⟨o1, o2, o3, o4⟩
theorem vkv_put (vs : List MV) (W : WD) {n : Int} {A : VA} {v : VoiceS} {p : Addr × Addr} (hn : n ∉ vs.map (·.1)) : putK (vkv vs W) (Sum.inl n : Key) (V.ref p.1) = vkv (vs ++ [(n, A, v)]) (W.put n p) := by
  have e : valV (vkv vs W) (Sum.inl n : Key) = none := by
    unfold vkv
    induction vs with
    | nil => rfl
    | cons x r ih =>
      rw [List.map_cons, List.mem_cons, not_or] at hn
      rw [List.map_cons, valV_neg (by simpa using Ne.symm hn.1)]
      exact ih hn.2
  rw [putK_new _ e]
  unfold vkv
  rw [List.map_append]
  congr 1
  · refine List.map_congr_left fun x hx => ?_
    rw [show W.put n p x.1 = W x.1 from if_neg fun z => hn (List.mem_map.mpr ⟨x, hx, z⟩)]
  · show _ = [((Sum.inl n : Key), V.ref (W.put n p n).1)]
    rw [show W.put n p n = p from if_pos rfl]
theorem vkv_get {vs : List MV} (W : WD) {e : MV} (he : e ∈ vs) (hn : (vs.map (·.1)).Nodup) : valV (vkv vs W) (Sum.inl e.1 : Key) = some (.ref (W e.1).1) := by
  unfold vkv
  induction vs with
  | nil => cases he
  | cons x r ih =>
    rw [List.map_cons, List.nodup_cons] at hn
    rcases List.mem_cons.mp he with a | a
    · subst a
      rw [List.map_cons, valV_pos rfl]
    · have : x.1 ≠ e.1 := fun z => hn.1 (List.mem_map.mpr ⟨e, a, z.symm⟩)
      rw [List.map_cons, valV_neg (by simpa using this)]
      exact ih a hn.2
theorem vkv_set (vs : List MV) (W : WD) (n : Int) (v : VoiceS) : vkv (setV vs n v) W = vkv vs W := by
  unfold vkv setV
  rw [List.map_map]
  refine List.map_congr_left fun e _ => ?_
  show ((Sum.inl (if e.1 = n then (e.1, e.2.1, v) else e).1, V.ref (W (if e.1 = n then (e.1, e.2.1, v) else e).1).1) : Key × V) = _
  split <;> rfl
theorem vkv_beat (s : MixS) (W : WD) (ys : List Int) : vkv (s.beat ys).vs W = vkv s.vs W := by
  unfold vkv MixS.beat
  show (s.vs.map s.step).map _ = _
  rw [List.map_map]
  rfl
theorem names_sorted {xs ys : List Int} (p : ys.Perm xs) (h : ys.Pairwise (· ≤ ·)) (g : xs.Pairwise (· < ·)) : ys = xs :=
  List.Perm.eq_of_pairwise (fun a b _ _ h1 h2 => by omega) h (g.imp fun h => by omega) p
end
end Mx

namespace Mx
open PySem L2
theorem lc_rel {J : It} {n : Nat} {G : Hp → Prop} {Y : Nat → Hp → V → Hp → Prop} (w : Walk J n G Y) {F : List Addr} {H1 H9 : Hp} {i : Nat} {tt : TT} {te : TE} {σ : L2.St} {Q : VK} (Z : Hp → Prop) (R : Hp → Nat → V → Prop) (p : Nat → Bool) (YX : Nat → V → Prop)
    (z1 : Z H1) (hF : ∀ b ∈ F, H1 b ≠ none) (hz : ∀ D H H', H1 D = none → Z H → Stp [D] H H' → Stp F H1 H' → Z H') (hG : ∀ H, Z H → Stp F H1 H → G H) (hR : ∀ F' H H' j y, R H j y → Stp F' H H' → R H' j y) (hn : n ≤ 100000)
    (hY : ∀ j H x H', j < n → Y j H x H' → H' = H ∧ YX j x)
    (ht : ∀ j x H, j < n → YX j x → Z H → Stp F H1 H → ∀ Q' : Bool → Hp → Prop, (∀ H', Z H' → Stp F H1 H' → Stp F H H' → Q' (p j) H') → tt ((wipe σ [i]).set i (some x)) H Q')
    (he : ∀ j x H, j < n → YX j x → p j = true → Z H → Stp F H1 H → ∀ Q' : VK, (∀ y H', R H' j y → Z H' → Stp F H1 H' → Stp F H H' → Q' y H') → te ((wipe σ [i]).set i (some x)) H Q')
    (k : ∀ D H' ys, H1 D = none → Z H' → Stp F H1 H' → H' D = some (.lst ys) → Paired (R H') ((List.range n).filter p) ys → Q (.ref D) H') :
    tLc (fun _ _ R => R J H1) (gName i) tt te [i] σ H9 Q := by
  intro D hD
  have hDF : D ∉ F := fun z => hF D z hD
  refine lc_it w (fun m H => Z H ∧ Stp F H1 H ∧ ∃ ys, H D = some (.lst ys) ∧ Paired (R H) ((List.range m).filter p) ys) ⟨hz D _ _ hD z1 ((Stp.new hD).sub (by simp)) ((Stp.new hD).sub (by simp)), (Stp.new hD).sub (by simp), [], upd_same, .nil⟩ (fun m H _ h => hG H h.1 h.2.1) (fun m x H H' hm h hy => ?_) (fun H h => ?_)
  · obtain ⟨rfl, hx⟩ := hY m H x H' hm hy
    obtain ⟨z, sm, ys, hD2, hp⟩ := h
    refine ⟨wipe1, ?_⟩
    have ef : (List.range (m + 1)).filter p = (List.range m).filter p ++ if p m = true then [m] else [] := by
      rw [List.range_succ, List.filter_append]
      congr 1
      rw [List.filter_cons, List.filter_nil]
    refine ht m x _ hm hx z sm _ fun H2 z2 s2 s2' => ?_
    have hD3 := s2'.keep _ _ hD2 hDF
    have hp2 : Paired (R H2) ((List.range m).filter p) ys := pr_map (fun _ _ q => hR _ _ _ _ _ q s2') hp
    cases e : p m with
    | false =>
      rw [if_neg (by simp)]
      rw [e] at ef
      exact ⟨z2, s2, ys, hD3, by rw [ef]; simpa using hp2⟩
    | true =>
      rw [if_pos rfl]
      rw [e] at ef
      refine he m x _ hm hx e z2 s2 _ fun y H3 hy3 z3 s3 s3' => ?_
      have hD4 := s3'.keep _ _ hD3 hDF
      have sP := Stp.put (o := .lst (ys ++ [y])) hD4 (fun xs z => nomatch z)
      have sA : Stp F H1 (upd H3 D (.lst (ys ++ [y]))) := (s3.trans sP).subN fun b hb => by
        rcases List.mem_append.mp hb with q | q
        · exact .inl q
        · exact .inr (List.mem_singleton.mp q ▸ hD)
      refine ⟨ys, hD4, ?_, hz D _ _ hD z3 sP sA, sA, ys ++ [y], upd_same, ?_⟩
      · rw [← hp.length]
        exact Nat.lt_of_le_of_lt (Nat.le_trans (List.length_filter_le _ _) (by rw [List.length_range]; exact show m ≤ 100000 by omega)) (by decide)
      · rw [ef]
        exact (pr_map (fun _ _ q => hR _ _ _ _ _ q (s3'.trans sP)) hp2).snoc (hR _ _ _ _ _ hy3 sP)
  · obtain ⟨z, sm, ys, hD2, hp⟩ := h
    exact k D H ys hD z sm hD2 hp
/-- a comprehension that draws whole numbers, so many as a range tells -/
theorem lc_rowI {K : PySem.W.Frag} {r sc : Addr} {ns : List Int} {H1 : Hp} {n : Nat} {ta : TA} {i : Nat} {te : TE} {σ : L2.St} {Q : VK} (lo hi : Int) (hR : RowAt K H1 r sc ns) (hn : n ≤ 100000) (hta : ∀ R : List V → Hp → Prop, R [.int (n : Int)] H1 → ta σ H1 R)
    (he : ∀ x H, RowAt K H r sc ns → ∀ Q' : VK, (∀ v H', lo ≤ v → v ≤ hi → RowAt K H' r sc ns → Stp [r] H H' → Q' (.int v) H') → te ((wipe σ [i]).set i (some x)) H Q')
    (k : ∀ D H' (xs : List Int), H1 D = none → RowAt K H' r sc ns → Stp [r] H1 H' → H' D = some (.lst (xs.map V.int)) → xs.length = n → (∀ v ∈ xs, lo ≤ v ∧ v ≤ hi) → Q (.ref D) H') :
    tLc (iRng1 ta) (gName i) tYes te [i] σ H1 Q := by
  refine hta _ ⟨_, rfl, by omega, by omega, ?_⟩
  refine lc_rel (H9 := H1) (walk_range (lo := 0) (n := n)) (F := [r]) (Z := fun H => RowAt K H r sc ns) (R := fun _ _ y => ∃ v : Int, y = .int v ∧ lo ≤ v ∧ v ≤ hi) (p := fun _ => true) (YX := fun _ _ => True) hR ?_ ?_ (fun _ _ _ => trivial) (fun _ _ _ _ _ h _ => h) hn (fun j H x H' _ h => ⟨h.1, trivial⟩) (fun j x H _ _ z s Q' q => q H z s (Stp.refl.sub (by simp))) (fun j x H _ _ _ z s Q' q => ?_) fun D H' ys hD z s hl hp => ?_
  · intro b hb
    rw [List.mem_singleton.mp hb]
    obtain ⟨_, _, _, _, _, z, _⟩ := hR
    rw [z]
    exact nofun
  · intro D H H' hD z s s0
    exact row_mv hR z s (by simpa using (row_ne hR hD).symm) s0
  · exact he x H z Q' fun v H' v0 v1 hR' s' => q _ H' ⟨v, rfl, v0, v1⟩ hR' ((s.trans s').sub (by simp)) s'
  · have : ∀ {js : List Nat} {ys : List V}, Paired (fun (_ : Nat) y => ∃ v : Int, y = .int v ∧ lo ≤ v ∧ v ≤ hi) js ys → ∃ xs : List Int, ys = xs.map V.int ∧ xs.length = js.length ∧ ∀ v ∈ xs, lo ≤ v ∧ v ≤ hi := by
      intro js ys h
      induction h with
      | nil => exact ⟨[], rfl, rfl, by simp⟩
      | cons h _ ih =>
        obtain ⟨v, rfl, v0, v1⟩ := h
        obtain ⟨xs, rfl, e, q⟩ := ih
        refine ⟨v :: xs, rfl, by simp [e], fun u hu => ?_⟩
        rcases List.mem_cons.mp hu with rfl | hu
        · exact ⟨v0, v1⟩
        · exact q u hu
    obtain ⟨xs, rfl, e, q⟩ := this hp
    refine k D H' xs hD z s hl ?_ q
    rw [e, List.filter_eq_self.mpr (fun _ _ => rfl), List.length_range]
/-- pairs of whole numbers over a range -/
theorem lc_pairs {H1 : Hp} {n : Nat} {ta : TA} {i : Nat} {te : TE} {σ : L2.St} {Q : VK} (f g : Nat → Int) (hn : n ≤ 100000) (hta : ∀ R : List V → Hp → Prop, R [.int (n : Int)] H1 → ta σ H1 R)
    (he : ∀ (j : Nat) H, j < n → ∀ Q' : VK, (∀ t H', H' t = some (.tup [.int (f j), .int (g j)]) → Stp [] H H' → Q' (.ref t) H') → te ((wipe σ [i]).set i (some (.int (0 + (j : Int))))) H Q')
    (k : ∀ D H' (ts : List Addr), H1 D = none → Stp [] H1 H' → H' D = some (.lst (ts.map V.ref)) → Paired (fun (j : Nat) t => H' t = some (.tup [.int (f j), .int (g j)])) (List.range n) ts → Q (.ref D) H') :
    tLc (iRng1 ta) (gName i) tYes te [i] σ H1 Q := by
  refine hta _ ⟨_, rfl, by omega, by omega, ?_⟩
  refine lc_rel (H9 := H1) (walk_range (lo := 0) (n := n)) (F := []) (Z := fun _ => True) (R := fun H j y => ∃ t, y = .ref t ∧ H t = some (.tup [.int (f j), .int (g j)])) (p := fun _ => true) (YX := fun j x => x = .int (0 + (j : Int))) trivial (by simp) (fun _ _ _ _ _ _ _ => trivial) (fun _ _ _ => trivial) (fun F' H H' j y h s => ?_) hn (fun j H x H' _ h => h) (fun j x H _ _ z s Q' q => q H trivial s Stp.refl) (fun j x H hj hx _ z s Q' q => ?_) fun D H' ys hD z s hl hp => ?_
  · obtain ⟨t, rfl, h⟩ := h
    exact ⟨t, rfl, s.tup _ _ h⟩
  · subst hx
    exact he j H hj Q' fun t H' h s' => q _ H' ⟨t, rfl, h⟩ trivial (s.trans s') s'
  · rw [List.filter_eq_self.mpr (fun _ _ => rfl)] at hp
    have : ∀ {js : List Nat} {ys : List V}, Paired (fun (j : Nat) y => ∃ t, y = .ref t ∧ H' t = some (.tup [.int (f j), .int (g j)])) js ys → ∃ ts : List Addr, ys = ts.map V.ref ∧ Paired (fun (j : Nat) t => H' t = some (.tup [.int (f j), .int (g j)])) js ts := by
      intro js ys h
      induction h with
      | nil => exact ⟨[], rfl, .nil⟩
      | cons h _ ih =>
        obtain ⟨t, rfl, h⟩ := h
        obtain ⟨ts, rfl, q⟩ := ih
        exact ⟨t :: ts, rfl, .cons h q⟩
    obtain ⟨ts, rfl, q⟩ := this hp
    exact k D H' ts hD s hl q
end Mx
namespace Mx
open PySem L2
/-- a comprehension over a dict's keys -/
theorem lc_keysR {d : Addr} {o : Obj} {kvs : List (Key × V)} {F : List Addr} {H1 : Hp} {i v : Nat} {tt : TT} {te : TE} {σ : L2.St} {Q : VK} (hv : σ[v]? = some (some (.ref d))) (hd : H1 d = some (.frz o (.dK kvs))) (hdF : d ∉ F) (Z : Hp → Prop) (R : Hp → Nat → V → Prop) (p : Nat → Bool)
    (z1 : Z H1) (hF : ∀ b ∈ F, H1 b ≠ none) (hz : ∀ D H H', H1 D = none → Z H → Stp [D] H H' → Stp F H1 H' → Z H') (hR : ∀ F' H H' j y, R H j y → Stp F' H H' → R H' j y) (hn : kvs.length ≤ 100000)
    (ht : ∀ j k w H, kvs[j]? = some (k, w) → Z H → Stp F H1 H → ∀ Q' : Bool → Hp → Prop, (∀ H', Z H' → Stp F H1 H' → Stp F H H' → Q' (p j) H') → tt ((wipe σ [i]).set i (some (kV k))) H Q')
    (he : ∀ j k w H, kvs[j]? = some (k, w) → p j = true → Z H → Stp F H1 H → ∀ Q' : VK, (∀ y H', R H' j y → Z H' → Stp F H1 H' → Stp F H H' → Q' y H') → te ((wipe σ [i]).set i (some (kV k))) H Q')
    (k : ∀ D H' ys, H1 D = none → Z H' → Stp F H1 H' → H' D = some (.lst ys) → Paired (R H') ((List.range kvs.length).filter p) ys → Q (.ref D) H') :
    tLc (iKeys (tVar v)) (gName i) tt te [i] σ H1 Q := by
  refine ⟨_, hv, d, o, rfl, .inl ⟨kvs, hd, ?_⟩⟩
  refine lc_rel (H9 := H1) (Q := Q) walk_keys (F := F) Z R p (fun j x => ∃ k w, kvs[j]? = some (k, w) ∧ x = kV k) z1 hF hz (fun H _ s => s.keep _ _ hd hdF) hR hn (fun j H x H' _ hy => ?_) (fun j x H _ hx z s Q' qq => ?_) (fun j x H _ hx hp z s Q' qq => ?_) k
  · obtain ⟨e, kk, w, hk, hx⟩ := hy
    exact ⟨e, kk, w, hk, hx⟩
  · obtain ⟨kk, w, hk, rfl⟩ := hx
    exact ht j kk w H hk z s Q' qq
  · obtain ⟨kk, w, hk, rfl⟩ := hx
    exact he j kk w H hk hp z s Q' qq
end Mx
namespace Mx
open PySem L2
/-- a for over the sorted names of a set of draws -/
theorem for_names {K : PySem.W.Frag} {w : World} {tl : TE} {g : TG} {tb : TS} {D : Ends} {σ : L2.St} {H : Hp} (Pr : Addr → List Int → Hp → Prop) (htl : ∀ R : VK, (∀ D0 H' xs, Pr D0 xs H' → R (.ref D0) H') → tl σ H R)
    (h : ∀ D0 xs H', Pr D0 xs H' → H' D0 = some (.lst (xs.map V.int)) ∧ xs.length < 60 ∧ ∀ p (nms : List Int) H'', nms.Pairwise (· < ·) → (∀ k, k ∈ nms ↔ k ∈ xs) → nms.length ≤ xs.length → Stp [] H' H'' → H' p = none → H'' p = some (.lst (nms.map V.int)) → tFor (fun _ _ R => R (Itl K p) H'') g tb D σ H'') :
    tFor (iList K (tCB (rSortedSet w) (tCons (tCB (rSetLi K w) (tCons tl tNil)) tNil))) g tb D σ H := htl _ fun D0 H' xs hP => by
  obtain ⟨hl, hn, hk⟩ := h D0 xs H' hP
  refine ⟨D0, xs, rfl, .inl (.inl hl), hn, fun sp c hsp hc => ?_⟩
  have s6 := Stp.new (o := SetO w sp (fun j => decide (j ∈ xs)) c) hsp
  have e6 : upd H' sp (SetO w sp (fun j => decide (j ∈ xs)) c) sp = some (SetO w sp (fun j => decide (j ∈ xs)) c) := upd_same
  generalize upd H' sp (SetO w sp (fun j => decide (j ∈ xs)) c) = H6 at *
  refine ⟨sp, _, c, rfl, e6, by omega, fun nms p hpw hmem hcl hp => ?_⟩
  have s7 := Stp.new (o := .lst (nms.map V.int)) hp
  exact ⟨p, rfl, ⟨_, .inl (.inl upd_same)⟩, hk p nms _ hpw (fun k => by rw [hmem, decide_eq_true_eq]) (by omega) (s6.trans s7) (s6.free hp (by simp)) upd_same⟩
end Mx

namespace Mx
open PySem L2
def MixS.names (s : MixS) : List Int := s.vs.map (·.1)
def own (W : WD) (ys : List Int) : List Addr := ys.flatMap fun n => [(W n).1, (W n).2]
theorem own_mem {W : WD} {ys : List Int} {n : Int} (h : n ∈ ys) : (W n).1 ∈ own W ys ∧ (W n).2 ∈ own W ys := ⟨List.mem_flatMap.mpr ⟨n, h, by simp⟩, List.mem_flatMap.mpr ⟨n, h, by simp⟩⟩
theorem own_or {W : WD} {ys : List Int} {b : Addr} (h : b ∈ own W ys) : ∃ n ∈ ys, b = (W n).1 ∨ b = (W n).2 := by
  obtain ⟨n, hn, hb⟩ := List.mem_flatMap.mp h
  exact ⟨n, hn, by simpa using hb⟩
/-- the same but for what the voices hold -/
structure Lk (m d k : Addr) (s s' : MixS) : Prop where
  nm : s'.names = s.names
  ft : s'.foot m d k = s.foot m d k
  co : s'.coming = s.coming
  la : s'.lacked = s.lacked
  so : s'.soft = s.soft
theorem Lk.refl {m d k : Addr} {s : MixS} : Lk m d k s s := ⟨rfl, rfl, rfl, rfl, rfl⟩
theorem Lk.trans {m d k : Addr} {s s' s'' : MixS} (a : Lk m d k s s') (b : Lk m d k s' s'') : Lk m d k s s'' := ⟨b.nm.trans a.nm, b.ft.trans a.ft, b.co.trans a.co, b.la.trans a.la, b.so.trans a.so⟩
theorem Lk.set (m d k : Addr) (s : MixS) (n : Int) (v : VoiceS) : Lk m d k s { s with vs := setV s.vs n v } := ⟨setV_names _ _ _, foot_set _ _ _ _ _ _, rfl, rfl, rfl⟩
theorem vkv_names {vs vs' : List MV} (W : WD) (h : vs'.map (·.1) = vs.map (·.1)) : vkv vs' W = vkv vs W := by
  have e : ∀ l : List MV, vkv l W = (l.map (·.1)).map fun n => ((Sum.inl n : Key), V.ref (W n).1) := fun l => by
    unfold vkv
    rw [List.map_map]
    rfl
  rw [e, e, h]
def Rw (K : PySem.W.Frag) (Hb : Hp) (r sc : Addr) (ns : List Int) (H : Hp) : Prop := RowAt K H r sc ns ∧ Stp [r] Hb H
theorem row_there {K : PySem.W.Frag} {H : Hp} {r sc : Addr} {ns : List Int} (h : RowAt K H r sc ns) : H r ≠ none := by
  obtain ⟨_, _, _, _, _, z, _⟩ := h
  rw [z]
  exact nofun
theorem Rw.mv {K : PySem.W.Frag} {Hb H H' : Hp} {r sc : Addr} {ns : List Int} {F : List Addr} (h : Rw K Hb r sc ns H) (hb : RowAt K Hb r sc ns) (s : Stp F H H') (hF : ∀ b ∈ F, Hb b = none) : Rw K Hb r sc ns H' := by
  have sF : Stp [r] Hb H' := (h.2.trans s).subN fun b hb' => by
    rcases List.mem_append.mp hb' with z | z
    · exact .inl z
    · exact .inr (hF b z)
  exact ⟨row_mv hb h.1 s (fun z => row_there hb (hF r z)) sF, sF⟩
theorem Rw.st0 {K : PySem.W.Frag} {Hb H H' : Hp} {r sc : Addr} {ns : List Int} (h : Rw K Hb r sc ns H) (hb : RowAt K Hb r sc ns) (s : Stp [] H H') : Rw K Hb r sc ns H' := h.mv hb s (by simp)
theorem Rw.go {K : PySem.W.Frag} {Hb H H' : Hp} {r sc : Addr} {ns : List Int} (h : Rw K Hb r sc ns H) (h' : RowAt K H' r sc ns) (s : Stp [r] H H') : Rw K Hb r sc ns H' := ⟨h', (h.2.trans s).sub (by simp)⟩
theorem Rw.fr {K : PySem.W.Frag} {Hb H : Hp} {r sc : Addr} {ns : List Int} (h : Rw K Hb r sc ns H) {b : Addr} (hb : H b = none) : Hb b = none := by
  refine h.2.free hb fun z => ?_
  rw [List.mem_singleton.mp z] at hb
  exact row_there h.1 hb
/-- nothing of the mixer and of the law's voices was there at the begin -/
structure Fr (Hb : Hp) (m d k : Addr) (s : MixS) (W : WD) : Prop where
  ft : ∀ b ∈ s.foot m d k, Hb b = none
  ow : ∀ b ∈ own W s.names, Hb b = none
theorem Fr.lk {Hb : Hp} {m d k : Addr} {s s' : MixS} {W : WD} (h : Fr Hb m d k s W) (l : Lk m d k s s') : Fr Hb m d k s' W := ⟨by rw [l.ft]; exact h.ft, by rw [l.nm]; exact h.ow⟩
section
variable {K : PySem.W.Frag} {cs : Cs} {H H' : Hp} {m d k : Addr} {s : MixS} {W : WD} {B : Nat} {X F : List Addr}
theorem Bth.up (h : Bth K cs H m d k s W B X) {B' : Nat} (l : B ≤ B') : Bth K cs H m d k s W B' X := by
  obtain ⟨h1, h2, h3, h4, h5, h6, h7⟩ := h
  exact ⟨h1, fun e he => (h2 e he).up l, h3, h4, h5, fun e he => ⟨(h6 e he).1, Nat.le_trans (h6 e he).2.1 l, (h6 e he).2.2⟩, h7⟩
theorem Bth.xo (h : Bth K cs H m d k s W B X) {b : Addr} (hb : b ∈ X) : b ∉ s.foot m d k ∧ b ∉ own W s.names := by
  refine ⟨(h.xa b hb).1, fun z => ?_⟩
  obtain ⟨n, hn, q⟩ := own_or z
  obtain ⟨e, he, rfl⟩ := List.mem_map.mp hn
  rcases q with q | q
  · exact ((h.xa b hb).2 e he).1 q
  · exact ((h.xa b hb).2 e he).2 q
theorem mem_names {e : MV} (he : e ∈ s.vs) : e.1 ∈ s.names := List.mem_map.mpr ⟨e, he, rfl⟩
/-- behind an update of what came -/
theorem valV_mergeK {κv : List (Key × V)} (k : Key) : ∀ (more : List (Key × V)) (kvs : List (Key × V)), (valV (mergeK kvs more) k).isSome = ((valV kvs k).isSome || more.any fun p => decide (p.1 = k))
  | [], kvs => by simp [mergeK]
  | p :: r, kvs => by
    show (valV (mergeK (putK kvs p.1 p.2) r) k).isSome = _
    rw [valV_mergeK (κv := κv) k r, valV_put, List.any_cons]
    by_cases e : k = p.1
    · rw [if_pos e, decide_eq_true e.symm]
      simp
    · rw [if_neg e, decide_eq_false (Ne.symm e)]
      simp
theorem came_take {kc : List (Key × V)} {l : LineS} (h : ∀ i : Int, (valV kc (Sum.inl i : Key)).isSome = l.has i) (pl : Int) (xs : List Int) (i : Int) :
    (valV (mergeK kc ((List.range xs.length).map fun j : Nat => ((Sum.inl (pl + (j : Int)) : Key), V.int 0))) (Sum.inl i : Key)).isSome = (l.take pl xs).has i := by
  rw [valV_mergeK (κv := []), h]
  unfold LineS.has LineS.take
  show _ = (look (putAll l.came pl xs) i).isSome
  rw [look_putAll]
  have ea : (((List.range xs.length).map fun j : Nat => ((Sum.inl (pl + (j : Int)) : Key), V.int 0)).any fun p => decide (p.1 = (Sum.inl i : Key))) = decide (pl ≤ i ∧ i < pl + (xs.length : Int)) := by
    rw [List.any_map, Bool.eq_iff_iff, List.any_eq_true, decide_eq_true_eq]
    constructor
    · rintro ⟨j, hj, e⟩
      have hj' := List.mem_range.mp hj
      have : pl + (j : Int) = i := by
        have := of_decide_eq_true e
        exact Sum.inl.inj this
      omega
    · rintro ⟨h1, h2⟩
      refine ⟨(i - pl).toNat, List.mem_range.mpr (by omega), decide_eq_true ?_⟩
      show (Sum.inl (pl + (((i - pl).toNat : Nat) : Int)) : Key) = Sum.inl i
      rw [show pl + (((i - pl).toNat : Nat) : Int) = i by omega]
  rw [ea]
  by_cases hs : (look l.came i).isSome = true
  · rw [if_pos hs, hs]
    rfl
  · rw [if_neg hs]
    have : (look l.came i).isSome = false := by simpa using hs
    rw [this, Bool.false_or]
    by_cases hr : pl ≤ i ∧ i < pl + (xs.length : Int)
    · rw [if_pos hr, decide_eq_true hr, List.getElem?_eq_getElem (by omega)]
      rfl
    · rw [if_neg hr, decide_eq_false hr]
      rfl
end
end Mx

namespace Mx
open PySem L2
set_option hygiene false in
local macro_rules | `(tactic| walk_at "rd") => `(tactic| try simp only [L2.start, List.map_cons, List.map_nil, List.length_cons, List.length_nil, Nat.reduceAdd, Nat.reduceSub, Nat.reduceLT, Nat.reduceLeDiff, List.replicate_succ, List.replicate_zero, List.append_nil, List.nil_append, List.cons_append, List.set_cons_zero, List.set_cons_succ, List.getElem?_cons_zero, List.getElem?_cons_succ,
  Option.some.injEq, List.cons.injEq, and_true, true_and, and_assoc, reduceCtorEq, L2.V.int.injEq, L2.V.ref.injEq, L2.V.bl.injEq, L2.V.str.injEq, L2.V.ty.injEq, L2.HO.ins.injEq, L2.HO.lst.injEq, L2.HO.tup.injEq, L2.HO.dK.injEq, exists_eq_left', exists_eq_left, exists_eq_right, exists_eq', exists_eq, exists_and_left, exists_and_right, reduceIte, Bool.false_eq_true, Bool.not_true, Bool.not_false,
  L2.tSeq, L2.tIfS, L2.tRet, L2.tRetN, L2.tNext, L2.tAsg, L2.gName, L2.tVar, L2.tC, L2.tCons, L2.tNil, L2.tCB, L2.tOp, L2.tUn, L2.tTup, L2.tLst, L2.tB, L2.tOr, L2.tAnd, L2.tNot, L2.tAndV, L2.tOrV, L2.tNotV, L2.tIf, L2.tTest, L2.tChain, L2.rI, L2.rI0, L2.rU, L2.tDrop, L2.tNever, L2.tCall, L2.tMeth, L2.tMake, L2.rGcd, L2.tFld, L2.sFld, L2.sFldAug, Mx.sFldA, Mx.sFldAugA, L2.rAdd, L2.rSub, L2.rEq, L2.rNe, L2.tDGet, L2.tDIn, L2.tDNotIn, L2.sDPut,
  Mx.isi_int_bool, Mx.isi_int_int, Mx.isi_int_tuple, Mx.isi_int_list, Mx.isi_int_str, Mx.scal_int, Mx.scal_str, Mx.scal_bl, Mx.ofString_inj, Mx.ofString_beq, Mx.lk_cons, Mx.pf_nil, Mx.pf_cons, Mx.sz1, Mx.sz2, List.lookup_nil, String.reduceEq, decide_true, decide_false, decide_eq_true_eq, Int.natAbs_natCast, L2.upd_same, L2.upd_upd, L2.cxOf, L2.gSub, L2.tPar, L2.tPar3, Mx.fsM, L2.gCons, L2.gNil, L2.tBM0, L2.tBM, L2.sDPut, L2.tDNewK, Mx.optV])
set_option hygiene false in
local macro_rules | `(tactic| walk_at "rds") => `(tactic| try simp only [L2.start, List.map_cons, List.map_nil, List.length_cons, List.length_nil, Nat.reduceAdd, Nat.reduceSub, Nat.reduceLT, Nat.reduceLeDiff, List.replicate_succ, List.replicate_zero, List.append_nil, List.nil_append, List.cons_append, List.set_cons_zero, List.set_cons_succ, List.getElem?_cons_zero, List.getElem?_cons_succ,
  Option.some.injEq, List.cons.injEq, and_true, true_and, and_assoc, reduceCtorEq, L2.V.int.injEq, L2.V.ref.injEq, L2.V.bl.injEq, L2.V.str.injEq, L2.V.ty.injEq, L2.HO.ins.injEq, L2.HO.lst.injEq, L2.HO.tup.injEq, L2.HO.dK.injEq, exists_eq_left', exists_eq_left, exists_eq_right, exists_eq', exists_eq, exists_and_left, exists_and_right, reduceIte, Bool.false_eq_true, Bool.not_true, Bool.not_false,
  L2.tSeq, L2.tIfS, L2.tRet, L2.tRetN, L2.tNext, L2.tAsg, L2.gName, L2.tVar, L2.tC, L2.tCons, L2.tNil, L2.tCB, L2.tOp, L2.tUn, L2.tTup, L2.tLst, L2.tB, L2.tOr, L2.tAnd, L2.tNot, L2.tAndV, L2.tOrV, L2.tNotV, L2.tIf, L2.tTest, L2.tChain, L2.rI, L2.rI0, L2.rU, L2.tDrop, L2.tNever, L2.tCall, L2.tMeth, L2.tMake, L2.rGcd, L2.tFld, L2.sFld, L2.sFldAug, Mx.sFldA, Mx.sFldAugA, L2.rAdd, L2.rSub, L2.rEq, L2.rNe, L2.tDGet, L2.tDIn, L2.tDNotIn, L2.sDPut,
  Mx.isi_int_bool, Mx.isi_int_int, Mx.isi_int_tuple, Mx.isi_int_list, Mx.isi_int_str, Mx.scal_int, Mx.scal_str, Mx.scal_bl, Mx.ofString_inj, Mx.ofString_beq, Mx.lk_cons, Mx.pf_nil, Mx.pf_cons, Mx.sz1, Mx.sz2, List.lookup_nil, String.reduceEq, decide_true, decide_false, decide_eq_true_eq, Int.natAbs_natCast, L2.upd_same, L2.upd_upd, L2.cxOf, L2.gSub, L2.tPar, L2.tPar3, Mx.fsM, L2.gCons, L2.gNil, L2.tBM0, L2.tBM, L2.sDPut, L2.tDNewK, Mx.optV, *])

section
variable {P : Program} {w : World} {K : PySem.W.Frag} {mg : Str → Option Value} {base : Heap} {cs : Cs} {C : Addr}
abbrev N06 : List Str := ["_law_script", "_law_row", "_law_soft", "_law_mixer", "_law_voices", "_law_name", "_law_pace_here", "_law_wait", "_law_due", "_law_beat", "_law_v", "_law_place", "_law_many", "_law_k"]
theorem sc_law : FnScope N06 ["_law_script"] (defScope s_law) := ⟨rfl, rfl, rfl, by decide +kernel, rfl, by decide +kernel, by decide +kernel⟩
def sp_law (K : PySem.W.Frag) : Sp := fun vs H Q _ => ∃ (a : Addr) (ns : List Int), vs = [.ref a] ∧ SqL K H a (ns.map V.int) ∧ ns.length ≤ 63 ∧ ∀ H', Q (.bl true) H'
def forBody : Stmt → List Stmt
  | .For _ _ b _ _ => b
  | _ => []
abbrev pass0s : Stmt := .Pass ⟨0, 0, 0, 0⟩
abbrev b1S : List Stmt := forBody ((defBody s_law).getD 4 pass0s)
abbrev b2S : List Stmt := forBody ((defBody s_law).getD 6 pass0s)
abbrev b3S : List Stmt := forBody (b2S.getD 0 pass0s)
structure G06 (P : Program) (w : World) (K : PySem.W.Frag) (mg : Str → Option Value) (base : Heap) (cs : Cs) : Prop where
  min : mg "min" = none
  set : mg "set" = none
  taken : OwnF P w K mg base "_law_taken" 1 ["_law_row", "_law_many"] (sp_taken K)
  pace : OwnF P w K mg base "_law_pace" 2 ["_law_row"] (sp_law_pace K)
  number : OwnF P w K mg base "_law_number" 2 ["_law_row"] (sp_drawn K (-999) 999)
  lacks : OwnF P w K mg base "_law_lacks" 3 ["_law_v", "_law_beat"] (sp_own_bool LineS.lacks)
  alike2 : OwnF P w K mg base "_law_alike" 3 ["_law_found", "_law_due"] (sp_eq K 2)
  mixer : OwnC P w K mg base cs.M "Mixer" 3 ["self", "soft"] (sp_Mixer_init K cs)
  add : OwnM P w K mg base cs.M "add" 6 ["self", "name", "pace", "wait", "loudness"] (sp_Mixer_add K cs)
  parcel : OwnM P w K mg base cs.M "parcel" 4 ["self", "name", "place", "numbers"] (sp_Mixer_parcel K cs)
  endd : OwnM P w K mg base cs.M "end" 4 ["self", "name", "many"] (sp_Mixer_end K cs)
  hush : OwnM P w K mg base cs.M "hush" 4 ["self", "name"] (sp_Mixer_heard K cs false)
  beat : OwnM P w K mg base cs.M "beat" 8 ["self"] (sp_Mixer_beat K cs)
  missed : OwnM P w K mg base cs.M "missed" 1 ["self"] (sp_Mixer_missed K cs)
abbrev XL (P : Program) (w : World) (K : PySem.W.Frag) (mg : Str → Option Value) (base : Heap) (f : Addr) (cdv : Value) (A : Around) (outer : List Env) (s : Shared) (H : Hp) (E : XK) : Cx := (cxOf CX0 P w K mg base N06 "law" (defScope s_law) f cdv A outer s H E).nox
theorem VoiceOk.lined {d : Nat} {soft : Int} {v : VoiceS} (h : VoiceOk d soft v) {l : LineS} (hl : LineOk l) : VoiceOk d soft { v with line := l } :=
  ⟨hl, h.loud, h.word, h.stR, h.stF, h.part, h.partS, h.height⟩
theorem pairs_key {H : Hp} {pl : Int} : ∀ {js : List Nat} {ts : List Addr}, Paired (fun (j : Nat) t => H t = some (.tup [.int (pl + (j : Int)), .int 0])) js ts → Paired (fun p kv => SqT K H p [kV kv.1, kv.2]) ts (js.map fun j : Nat => ((Sum.inl (pl + (j : Int)) : Key), V.int 0))
  | _, _, .nil => .nil
  | _, _, .cons h r => .cons (.inl (.inl h)) (pairs_key r)
theorem t4_ok (B : Blt mg) (G : G06 P w K mg base cs) {f : Addr} {cdv : Value} {A : Around} {outer : List Env} {s : Shared} {H : Hp} {E : XK} (hr : Room 8 (A.deeper (PyProof.Rows.envOfC "law" (defScope s_law) s.heap.objs.size f cdv))) :
    ∃ t, PS (XL P w K mg base f cdv A outer s H E) (b3S.getD 3 pass0s) t ∧ ∀ (D : Ends) (Hb H1 : Hp) (sc r m d k vd : Addr) (ns : List Int) (st : MixS) (W : WD) (B : Nat) (X : List Addr) (e : MV) (x6 x7 x8 x9 : Option V) (soft pl mn : Int)
      (hb : RowAt K Hb r sc ns) (hw : Rw K Hb r sc ns H1) (hB : Bth K cs H1 m d k st W B X) (hF : Fr Hb m d k st W) (he : e ∈ st.vs) (hB8 : B ≤ 80000) (hrX : r ∈ X) (p0 : 0 ≤ pl) (p1 : pl ≤ 59) (m1 : mn ≤ 20) (hm : ∀ n, e.2.2.line.many = some n → pl + mn ≤ n)
      (q : (∀ H2 st' y10 y11 y12, Bth K cs H2 m d k st' W (B + 20) X → Lk m d k st st' → Rw K Hb r sc ns H2 → Stp (r :: (st.foot m d k ++ own W st.names)) H1 H2 → D.nx [some (.ref sc), some (.ref r), some (.int soft), some (.ref m), some (.ref vd), some (.int e.1), x6, x7, x8, x9, y10, y11, y12, none] H2)),
      t D [some (.ref sc), some (.ref r), some (.int soft), some (.ref m), some (.ref vd), some (.int e.1), x6, x7, x8, x9, some (.ref (W e.1).1), some (.int pl), some (.int mn), none] H1 := by
  have nd := sc_law.nd
  have hu := hu_of hr
  have r1 := hr.mono (show 1 ≤ 8 by decide)
  have r2 := hr.mono (show 2 ≤ 8 by decide)
  have r3 := hr.mono (show 3 ≤ 8 by decide)
  have r4 := hr.mono (show 4 ≤ 8 by decide)
  have r6 := hr.mono (show 6 ≤ 8 by decide)
  have r8 := hr.mono (show 8 ≤ 8 by decide)
  refine ⟨_, (ps_if (PW.pt (pw_and (pt_cmpR op_gt (pv 12) pe_int (nomark _)) (pw_and1 (pt_cmpR op_eq (p_call G.taken r1 (pa_cons (pv 1) (pa_cons pe_int pa_nil))) pe_int (nomark _))))) (pss_cons (ps_expr (p_meth G.parcel r4 (pv 3) (pa_cons (pv 5) (pa_cons (pv 11) (pa_cons (pe_lc (own := [("_law_k", 13)]) (te := tCall (sp_drawn K (-999) 999) [] E0 (tCons (tVar 1) tNil)) rfl nd (pi_range1 (by rfl) B.range (pa_cons (pv 12) pa_nil)) (blkOk_by (N := N06) (sc := defScope s_law) (by decide +kernel)) (fun _ _ _ _ _ => pg_name (i := 13) nd rfl (.inl rfl)) (fun _ _ _ _ _ => pts_nil) (fun _ _ _ _ _ => (p_call G.number r2 (pa_cons (pv 1) pa_nil)))) pa_nil)))))
      (pss_one (ps_expr (pe_bm PySem.F.plainAttrs_dict PySem.F.slot_dict_update PySem.F.type_dict_update (mt_upd rfl) (pe_dget hu (pv 10) pe_str (fun _ _ => rfl)) (pa_cons (pe_lc (own := [("_law_k", 13)]) (te := tTup (tCons (tOp (rI0 fun i j => .int (i + j)) (tVar 11) (tVar 13)) (tCons (tC (.int 0)) tNil))) rfl nd (pi_range1 (by rfl) B.range (pa_cons (pv 12) pa_nil)) (blkOk_by (N := N06) (sc := defScope s_law) (by decide +kernel)) (fun _ _ _ _ _ => pg_name (i := 13) nd rfl (.inl rfl)) (fun _ _ _ _ _ => pts_nil) (fun _ _ _ _ _ => (pe_tup (pa_cons (pe_op op_add (pv 11) (pv 13)) (pa_cons pe_int pa_nil))))) pa_nil))))) pss_nil), ?_⟩
  intro D Hb H1 sc r m d k vd ns st W B X e x6 x7 x8 x9 soft pl mn hb hw hB hF he hB8 hrX p0 p1 m1 hm q
  have hfe : ∀ b ∈ e.2.1.foot, Hb b = none := fun b hb => hF.ft b (mem_foot he hb)
  have hno : ∀ H2, Rw K Hb r sc ns H2 → Stp [r] H1 H2 → Bth K cs H2 m d k st W B X → D.nx [some (.ref sc), some (.ref r), some (.int soft), some (.ref m), some (.ref vd), some (.int e.1), x6, x7, x8, x9, some (.ref (W e.1).1), some (.int pl), some (.int mn), none] H2 := fun H2 hw2 s2 hB2 => q H2 st _ _ _ (hB2.up (by omega)) Lk.refl hw2 (s2.sub (by simp))
  walk_at "rd"
  by_cases hmn : 0 < mn
  · rw [if_pos hmn]
    refine ⟨r, sc, ns, 3, rfl, hw.1, by decide, fun c H2 c0 c1 hR2 s2 => ⟨rfl, ?_⟩⟩
    have hw2 := hw.go hR2 s2
    have hB2 := hB.stX s2 (by simpa using hrX)
    by_cases hc : (V.int c) = V.int 0
    · rw [if_pos hc]
      obtain ⟨dx, hma⟩ := id hB2.mix.ob
      refine ⟨dx, _, hma, by walk_at "rd", ?_⟩
      refine lc_rowI (-999) 999 hR2 (n := mn.toNat) (by omega) (fun R h => ⟨_, rfl, by rw [show ((mn.toNat : Nat) : Int) = mn by omega] at h; exact h⟩) (fun x H3 hR3 Q' qq => ⟨_, rfl, r, sc, ns, rfl, hR3, fun v H4 v0 v1 hR4 s4 => qq v H4 v0 v1 hR4 s4⟩) fun a H3 xs ha hR3 s3 hl hxl hxs => ?_
      have hw3 := hw2.go hR3 s3
      have hB3 := hB2.stX s3 (by simpa using hrX)
      have hok := hB3.ok e he
      have hxn : (xs.length : Int) = mn := by omega
      have har : a ≠ r := row_ne hR2 ha
      refine ⟨m, d, k, a, st, e, pl, xs, rfl, hB3.mix, he, hok.2.2.2.1, hok.2.2.2.2, .inl (.inl hl), fun z => hB2.mix.some a (mem_foot he z) ha, ⟨p0, by omega, by omega, by omega, hxs, ?_⟩, by have := hok.2.1; omega, fun H4 hM4 s4 => ?_⟩
      · unfold LineS.room
        cases em : e.2.2.line.many with
        | none =>
          show pl + (xs.length : Int) ≤ 1000
          omega
        | some n =>
          have := hm n em
          show pl + (xs.length : Int) ≤ n
          omega
      have hw4 := hw3.mv hb s4 hfe
      have hO3 := hB3.ov e he
      have hap := hB3.ap e he
      obtain ⟨kv, kc, tp, h1, h2, h3, h4, h5, h6, h7, h8, h9, h10⟩ := hO3.st s4 (fun z => hap.1 (mem_foot he z)) (fun z => hap.2 (mem_foot he z))
      refine ⟨_, dgs h1 h5, .inr (.inr (.inl ⟨rfl, .inl ⟨_, h6⟩⟩)), ?_⟩
      refine lc_pairs (fun j => pl + (j : Int)) (fun _ => 0) (n := xs.length) (by omega) (fun R h => ⟨_, rfl, by rw [hxn] at h; exact h⟩) (fun j H5 hj Q' qq => ?_) fun D' H5 ts hD' s5 hl5 hp5 => ?_
      · refine ⟨_, rfl, _, rfl, _, _, rfl, rfl, (by decide : 2 ≤ sizeLine), fun t ht => qq t _ ?_ (Stp.new ht)⟩
        rw [upd_same]
        show some (HO.tup [V.int (pl + (0 + (j : Int))), V.int 0]) = _
        rw [Int.zero_add]
      have hw5 := hw4.st0 hb s5
      have h65 := s5.keep _ _ h6 (by simp)
      have hkl : kc.length + ((List.range xs.length).map fun j : Nat => ((Sum.inl (pl + (j : Int)) : Key), V.int 0)).length ≤ B + 20 := by
        rw [List.length_map, List.length_range]
        omega
      refine ⟨_, D', kc, (List.range xs.length).map fun j : Nat => ((Sum.inl (pl + (j : Int)) : Key), V.int 0), ts, rfl, rfl, h65, .inl (.inl hl5), ?_, Nat.le_trans hkl (Nat.le_trans (show B + 20 ≤ 90000 by omega) (by decide)), ?_⟩
      · exact pairs_key hp5
      have s6 := Stp.put (o := .dK (mergeK kc ((List.range xs.length).map fun j : Nat => ((Sum.inl (pl + (j : Int)) : Key), V.int 0)))) h65 (fun xs z => nomatch z)
      have h66 : upd H5 (W e.1).2 (.dK (mergeK kc ((List.range xs.length).map fun j : Nat => ((Sum.inl (pl + (j : Int)) : Key), V.int 0)))) (W e.1).2 = _ := upd_same
      have hne : (W e.1).1 ≠ (W e.1).2 := (hB3.dj e he e he).1
      have h15 := s6.keep _ _ (s5.keep _ _ h1 (by simp)) (by simpa using hne)
      have h35 := s6.tup _ _ (s5.tup _ _ h3)
      generalize upd H5 (W e.1).2 _ = H6 at *
      have s36 : Stp (e.2.1.foot ++ [(W e.1).2]) H3 H6 := (s4.trans (s5.trans s6)).sub (by simp)
      have hM6 := (hM4.st0 s5).st s6 (fun b hb z => hap.2 (by rw [← foot_set m d k st e.1 _, ← List.mem_singleton.mp z]; exact hb))
      have hB6 := hB3.turn he s36 (fun b hb => by
        rcases List.mem_append.mp hb with z | z
        · exact .inl z
        · exact .inr (.inr (List.mem_singleton.mp z))) hM6 (B' := B + 20) ⟨kv, _, tp, h15, h2, h35, h4, h5, h66, came_take h7 pl xs, h8, Nat.le_trans (length_mergeK _ _) hkl, h10⟩ (by omega) (hok.1.lined ?_) ?_ hok.2.2.1
      · refine q H6 _ _ _ _ hB6 (Lk.set _ _ _ _ _ _) (hw5.mv hb s6 fun b hb => ?_) ((s2.trans (s3.trans s36)).sub fun b hb => ?_)
        · rw [List.mem_singleton.mp hb]
          exact hF.ow _ (own_mem (mem_names he)).2
        · simp only [List.mem_append, List.mem_singleton] at hb
          rcases hb with z | z | z | z
          · exact z ▸ List.mem_cons_self
          · exact z ▸ List.mem_cons_self
          · exact List.mem_cons_of_mem _ (List.mem_append_left _ (mem_foot he z))
          · exact List.mem_cons_of_mem _ (List.mem_append_right _ (z ▸ (own_mem (mem_names he)).2))
      · exact ⟨hok.1.line.pn0, hok.1.line.pn1, hok.1.line.pb0, hok.1.line.pb1, putAll_in _ _ _ hok.1.line.cm hxs, Nat.le_trans (putAll_len xs e.2.2.line.came pl) (by have := hok.2.1; omega)⟩
      · refine Nat.le_trans (putAll_len xs e.2.2.line.came pl) ?_
        have := hok.2.1
        omega
    · rw [if_neg hc]
      exact hno H2 hw2 s2 hB2
  · rw [if_neg hmn]
    exact hno H1 hw (Stp.refl.sub (by simp)) hB
end
end Mx

namespace Mx
open PySem L2
set_option hygiene false in
local macro_rules | `(tactic| walk_at "rd") => `(tactic| try simp only [L2.start, List.map_cons, List.map_nil, List.length_cons, List.length_nil, Nat.reduceAdd, Nat.reduceSub, Nat.reduceLT, Nat.reduceLeDiff, List.replicate_succ, List.replicate_zero, List.append_nil, List.nil_append, List.cons_append, List.set_cons_zero, List.set_cons_succ, List.getElem?_cons_zero, List.getElem?_cons_succ,
  Option.some.injEq, List.cons.injEq, and_true, true_and, and_assoc, reduceCtorEq, L2.V.int.injEq, L2.V.ref.injEq, L2.V.bl.injEq, L2.V.str.injEq, L2.V.ty.injEq, L2.HO.ins.injEq, L2.HO.lst.injEq, L2.HO.tup.injEq, L2.HO.dK.injEq, exists_eq_left', exists_eq_left, exists_eq_right, exists_eq', exists_eq, exists_and_left, exists_and_right, reduceIte, Bool.false_eq_true, Bool.not_true, Bool.not_false,
  L2.tSeq, L2.tIfS, L2.tRet, L2.tRetN, L2.tNext, L2.tAsg, L2.gName, L2.tVar, L2.tC, L2.tCons, L2.tNil, L2.tCB, L2.tOp, L2.tUn, L2.tTup, L2.tLst, L2.tB, L2.tOr, L2.tAnd, L2.tNot, L2.tAndV, L2.tOrV, L2.tNotV, L2.tIf, L2.tTest, L2.tChain, L2.rI, L2.rI0, L2.rU, L2.tDrop, L2.tNever, L2.tCall, L2.tMeth, L2.tMake, L2.rGcd, L2.tFld, L2.sFld, L2.sFldAug, Mx.sFldA, Mx.sFldAugA, L2.rAdd, L2.rSub, L2.rEq, L2.rNe, L2.tDGet, L2.tDIn, L2.tDNotIn, L2.sDPut,
  Mx.isi_int_bool, Mx.isi_int_int, Mx.isi_int_tuple, Mx.isi_int_list, Mx.isi_int_str, Mx.scal_int, Mx.scal_str, Mx.scal_bl, Mx.ofString_inj, Mx.ofString_beq, Mx.lk_cons, Mx.pf_nil, Mx.pf_cons, Mx.sz1, Mx.sz2, List.lookup_nil, String.reduceEq, decide_true, decide_false, decide_eq_true_eq, Int.natAbs_natCast, L2.upd_same, L2.upd_upd, L2.cxOf, L2.gSub, L2.tPar, L2.tPar3, Mx.fsM, L2.gCons, L2.gNil, L2.tBM0, L2.tBM, L2.sDPut, L2.tDNewK, Mx.optV])
set_option hygiene false in
local macro_rules | `(tactic| walk_at "rds") => `(tactic| try simp only [L2.start, List.map_cons, List.map_nil, List.length_cons, List.length_nil, Nat.reduceAdd, Nat.reduceSub, Nat.reduceLT, Nat.reduceLeDiff, List.replicate_succ, List.replicate_zero, List.append_nil, List.nil_append, List.cons_append, List.set_cons_zero, List.set_cons_succ, List.getElem?_cons_zero, List.getElem?_cons_succ,
  Option.some.injEq, List.cons.injEq, and_true, true_and, and_assoc, reduceCtorEq, L2.V.int.injEq, L2.V.ref.injEq, L2.V.bl.injEq, L2.V.str.injEq, L2.V.ty.injEq, L2.HO.ins.injEq, L2.HO.lst.injEq, L2.HO.tup.injEq, L2.HO.dK.injEq, exists_eq_left', exists_eq_left, exists_eq_right, exists_eq', exists_eq, exists_and_left, exists_and_right, reduceIte, Bool.false_eq_true, Bool.not_true, Bool.not_false,
  L2.tSeq, L2.tIfS, L2.tRet, L2.tRetN, L2.tNext, L2.tAsg, L2.gName, L2.tVar, L2.tC, L2.tCons, L2.tNil, L2.tCB, L2.tOp, L2.tUn, L2.tTup, L2.tLst, L2.tB, L2.tOr, L2.tAnd, L2.tNot, L2.tAndV, L2.tOrV, L2.tNotV, L2.tIf, L2.tTest, L2.tChain, L2.rI, L2.rI0, L2.rU, L2.tDrop, L2.tNever, L2.tCall, L2.tMeth, L2.tMake, L2.rGcd, L2.tFld, L2.sFld, L2.sFldAug, Mx.sFldA, Mx.sFldAugA, L2.rAdd, L2.rSub, L2.rEq, L2.rNe, L2.tDGet, L2.tDIn, L2.tDNotIn, L2.sDPut,
  Mx.isi_int_bool, Mx.isi_int_int, Mx.isi_int_tuple, Mx.isi_int_list, Mx.isi_int_str, Mx.scal_int, Mx.scal_str, Mx.scal_bl, Mx.ofString_inj, Mx.ofString_beq, Mx.lk_cons, Mx.pf_nil, Mx.pf_cons, Mx.sz1, Mx.sz2, List.lookup_nil, String.reduceEq, decide_true, decide_false, decide_eq_true_eq, Int.natAbs_natCast, L2.upd_same, L2.upd_upd, L2.cxOf, L2.gSub, L2.tPar, L2.tPar3, Mx.fsM, L2.gCons, L2.gNil, L2.tBM0, L2.tBM, L2.sDPut, L2.tDNewK, Mx.optV, *])

section
variable {P : Program} {w : World} {K : PySem.W.Frag} {mg : Str → Option Value} {base : Heap} {cs : Cs} {C : Addr}
theorem t3_ok (B : Blt mg) (G : G06 P w K mg base cs) {f : Addr} {cdv : Value} {A : Around} {outer : List Env} {s : Shared} {H : Hp} {E : XK} (hr : Room 8 (A.deeper (PyProof.Rows.envOfC "law" (defScope s_law) s.heap.objs.size f cdv))) :
    ∃ t, PSs (XL P w K mg base f cdv A outer s H E) b3S t ∧ ∀ (D : Ends) (Hb H1 : Hp) (sc r m d k vd : Addr) (ns : List Int) (st : MixS) (W : WD) (B : Nat) (X : List Addr) (e : MV) (o : Obj) (x6 x7 x8 x9 x10 x11 x12 : Option V) (soft : Int)
      (hb : RowAt K Hb r sc ns) (hw : Rw K Hb r sc ns H1) (hB : Bth K cs H1 m d k st W B X) (hF : Fr Hb m d k st W) (he : e ∈ st.vs) (hB8 : B ≤ 80000) (hrX : r ∈ X) (hrv : r ≠ vd) (hvd : H1 vd = some (.frz o (.dK (vkv st.vs W)))) (hnd : st.names.Nodup)
      (q : (∀ H2 st' y10 y11 y12, Bth K cs H2 m d k st' W (B + 20) X → Lk m d k st st' → Rw K Hb r sc ns H2 → Stp (r :: (st.foot m d k ++ own W st.names)) H1 H2 → D.nx [some (.ref sc), some (.ref r), some (.int soft), some (.ref m), some (.ref vd), some (.int e.1), x6, x7, x8, x9, y10, y11, y12, none] H2)),
      t D [some (.ref sc), some (.ref r), some (.int soft), some (.ref m), some (.ref vd), some (.int e.1), x6, x7, x8, x9, x10, x11, x12, none] H1 := by
  have nd := sc_law.nd
  have hu := hu_of hr
  have r1 := hr.mono (show 1 ≤ 8 by decide)
  have r2 := hr.mono (show 2 ≤ 8 by decide)
  have r3 := hr.mono (show 3 ≤ 8 by decide)
  have r4 := hr.mono (show 4 ≤ 8 by decide)
  have r6 := hr.mono (show 6 ≤ 8 by decide)
  have r8 := hr.mono (show 8 ≤ 8 by decide)
  obtain ⟨t4, h4, q4⟩ := t4_ok B G (outer := outer) (H := H) (E := E) hr
  refine ⟨_, (pss_cons (ps_set (i := 10) nd rfl (.inl rfl) (pe_dget hu (pv 4) (pv 5) (fun _ _ => rfl)))
      (pss_cons (ps_asg (pe_tup (pa_cons (p_call G.taken r1 (pa_cons (pv 1) (pa_cons (pe_ix ix_list (pe_lst (pa_cons pe_int (pa_cons pe_int pa_nil))) (p_call G.taken r1 (pa_cons (pv 1) (pa_cons pe_int pa_nil))) (fun _ _ => rfl)) pa_nil))) (pa_cons (pe_op op_add pe_int (p_call G.taken r1 (pa_cons (pv 1) (pa_cons pe_int pa_nil)))) pa_nil))) (pg_tup rfl (pgs_cons (pg_name (i := 11) nd rfl (.inr rfl)) (pgs_cons (pg_name (i := 12) nd rfl (.inl rfl)) pgs_nil))))
      (pss_cons (ps_set (i := 12) nd rfl (.inl rfl) (pe_ifExp (pt_cmpR op_isN (pe_dget hu (pv 10) pe_str (fun _ _ => rfl)) pe_non (nomark _)) (pv 12) (pe_callB (call_min2 rfl) (by rfl) G.min PyProof.Rows.boot_min (pa_cons (pv 12) (pa_cons (pe_op op_sub (pe_dget hu (pv 10) pe_str (fun _ _ => rfl)) (pv 11)) pa_nil)))))
      (pss_one h4)))), ?_⟩
  intro D Hb H1 sc r m d k vd ns st W B X e o x6 x7 x8 x9 x10 x11 x12 soft hb hw hB hF he hB8 hrX hrv hvd hnd q
  walk_at "rd"
  refine ⟨_, .inl ⟨_, Sum.inl e.1, .inr ⟨o, hvd⟩, rfl, (vkv_get W he hnd).symm⟩, ?_⟩
  walk_at "rd"
  have hR1 := hw.1
  intro ppl hppl
  have sapl := Stp.new (o := .lst [.int 9, .int 60]) hppl
  have hnpl := row_ne hR1 hppl
  refine ⟨r, sc, ns, 2, rfl, row_new hR1 hppl, by decide, fun cpl Hbpl c0pl c1pl hRbpl sbpl => ?_⟩
  have hlpl := sbpl.keep _ _ (upd_same (H := H1) (a := ppl) (o := .lst [.int 9, .int 60])) (by simpa using hnpl)
  obtain ⟨xpl, x0pl, x1pl, hxpl⟩ : ∃ x : Int, 9 ≤ x ∧ x ≤ 60 ∧ atI [V.int 9, V.int 60] cpl = some (.int x) := by
    have hc : cpl = 0 ∨ cpl = 1 := by omega
    rcases hc with rfl | rfl
    · exact ⟨9, by decide, by decide, rfl⟩
    · exact ⟨60, by decide, by decide, rfl⟩
  refine ixL (.inl (.inl hlpl)) hxpl ?_
  refine ⟨r, sc, ns, xpl, rfl, hRbpl, by omega, fun pl H2 pl0 pl1' hR2 scpl => ?_⟩
  have s2 : Stp [r] H1 H2 := (sapl.trans (sbpl.trans scpl)).sub (by simp)
  have pl1 : pl < 60 := by omega
  clear pl1' sapl hnpl hRbpl sbpl hlpl hxpl x0pl x1pl scpl c0pl c1pl
  refine ⟨r, sc, ns, 20, rfl, hR2, by decide, fun mn H3 mn0 mn1 hR3 s3 => ?_⟩
  walk_at "rd"
  intro pt hpt
  have s4 := Stp.new (o := .tup [.int pl, .int (1 + mn)]) hpt
  have h4t : upd H3 pt (.tup [.int pl, .int (1 + mn)]) pt = some (.tup [.int pl, .int (1 + mn)]) := upd_same
  generalize upd H3 pt (.tup [.int pl, .int (1 + mn)]) = H4 at *
  refine ⟨pt, _, rfl, .inl (.inl h4t), rfl, _, _, rfl, _, _, rfl, rfl, ?_⟩
  have s14 : Stp [r] H1 H4 := (s2.trans (s3.trans s4)).sub (by simp)
  have hw4 : Rw K Hb r sc ns H4 := ((hw.go hR2 s2).go hR3 s3).st0 hb s4
  have hB4 := hB.stX s14 (by simpa using hrX)
  have hvd4 := s14.keep _ _ hvd (by simpa using hrv.symm)
  obtain ⟨kv, kc, tp, h1, h2, h3, h4', h5, h6, h7, h8, h9, h10⟩ := hB4.ov e he
  have gM := dgs h1 h8
  have fin : ∀ mn' : Int, mn' ≤ 20 → (∀ n, e.2.2.line.many = some n → pl + mn' ≤ n) → t4 D [some (.ref sc), some (.ref r), some (.int soft), some (.ref m), some (.ref vd), some (.int e.1), x6, x7, x8, x9, some (.ref (W e.1).1), some (.int pl), some (.int mn'), none] H4 := fun mn' hm1 hm2 => by
    refine q4 D Hb H4 sc r m d k vd ns st W B X e x6 x7 x8 x9 soft pl mn' hb hw4 hB4 hF he hB8 hrX pl0 (by omega) hm1 hm2 fun H5 st' y10 y11 y12 hB5 hL hw5 s5 => ?_
    exact q H5 st' y10 y11 y12 hB5 hL hw5 ((s14.trans s5).sub fun b hb => by
      rcases List.mem_append.mp hb with z | z
      · rw [List.mem_singleton.mp z]
        exact List.mem_cons_self
      · exact z)
  simp only [List.set_cons_zero, List.set_cons_succ]
  cases em : e.2.2.line.many with
  | none =>
    rw [em] at gM
    walk_at "rd"
    refine ⟨_, gM, ?_⟩
    walk_at "rd"
    exact fin _ (by omega) fun n hn => by rw [em] at hn; cases hn
  | some n =>
    rw [em] at gM
    walk_at "rd"
    refine ⟨_, gM, ?_⟩
    walk_at "rd"
    refine ⟨_, gM, ?_⟩
    walk_at "rd"
    by_cases hlt : n - pl < 1 + mn
    · rw [if_pos hlt]
      exact fin _ (by omega) fun n' hn => by rw [em] at hn; cases hn; omega
    · rw [if_neg hlt]
      exact fin _ (by omega) fun n' hn => by rw [em] at hn; cases hn; omega
end
end Mx

namespace Mx
open PySem L2
set_option hygiene false in
local macro_rules | `(tactic| walk_at "rd") => `(tactic| try simp only [L2.start, List.map_cons, List.map_nil, List.length_cons, List.length_nil, Nat.reduceAdd, Nat.reduceSub, Nat.reduceLT, Nat.reduceLeDiff, List.replicate_succ, List.replicate_zero, List.append_nil, List.nil_append, List.cons_append, List.set_cons_zero, List.set_cons_succ, List.getElem?_cons_zero, List.getElem?_cons_succ,
  Option.some.injEq, List.cons.injEq, and_true, true_and, and_assoc, reduceCtorEq, L2.V.int.injEq, L2.V.ref.injEq, L2.V.bl.injEq, L2.V.str.injEq, L2.V.ty.injEq, L2.HO.ins.injEq, L2.HO.lst.injEq, L2.HO.tup.injEq, L2.HO.dK.injEq, exists_eq_left', exists_eq_left, exists_eq_right, exists_eq', exists_eq, exists_and_left, exists_and_right, reduceIte, Bool.false_eq_true, Bool.not_true, Bool.not_false,
  L2.tSeq, L2.tIfS, L2.tRet, L2.tRetN, L2.tNext, L2.tAsg, L2.gName, L2.tVar, L2.tC, L2.tCons, L2.tNil, L2.tCB, L2.tOp, L2.tUn, L2.tTup, L2.tLst, L2.tB, L2.tOr, L2.tAnd, L2.tNot, L2.tAndV, L2.tOrV, L2.tNotV, L2.tIf, L2.tTest, L2.tChain, L2.rI, L2.rI0, L2.rU, L2.tDrop, L2.tNever, L2.tCall, L2.tMeth, L2.tMake, L2.rGcd, L2.tFld, L2.sFld, L2.sFldAug, Mx.sFldA, Mx.sFldAugA, L2.rAdd, L2.rSub, L2.rEq, L2.rNe, L2.tDGet, L2.tDIn, L2.tDNotIn, L2.sDPut,
  Mx.isi_int_bool, Mx.isi_int_int, Mx.isi_int_tuple, Mx.isi_int_list, Mx.isi_int_str, Mx.scal_int, Mx.scal_str, Mx.scal_bl, Mx.ofString_inj, Mx.ofString_beq, Mx.lk_cons, Mx.pf_nil, Mx.pf_cons, Mx.sz1, Mx.sz2, List.lookup_nil, String.reduceEq, decide_true, decide_false, decide_eq_true_eq, Int.natAbs_natCast, L2.upd_same, L2.upd_upd, L2.cxOf, L2.gSub, L2.tPar, L2.tPar3, Mx.fsM, L2.gCons, L2.gNil, L2.tBM0, L2.tBM, L2.sDPut, L2.tDNewK, Mx.optV])
set_option hygiene false in
local macro_rules | `(tactic| walk_at "rds") => `(tactic| try simp only [L2.start, List.map_cons, List.map_nil, List.length_cons, List.length_nil, Nat.reduceAdd, Nat.reduceSub, Nat.reduceLT, Nat.reduceLeDiff, List.replicate_succ, List.replicate_zero, List.append_nil, List.nil_append, List.cons_append, List.set_cons_zero, List.set_cons_succ, List.getElem?_cons_zero, List.getElem?_cons_succ,
  Option.some.injEq, List.cons.injEq, and_true, true_and, and_assoc, reduceCtorEq, L2.V.int.injEq, L2.V.ref.injEq, L2.V.bl.injEq, L2.V.str.injEq, L2.V.ty.injEq, L2.HO.ins.injEq, L2.HO.lst.injEq, L2.HO.tup.injEq, L2.HO.dK.injEq, exists_eq_left', exists_eq_left, exists_eq_right, exists_eq', exists_eq, exists_and_left, exists_and_right, reduceIte, Bool.false_eq_true, Bool.not_true, Bool.not_false,
  L2.tSeq, L2.tIfS, L2.tRet, L2.tRetN, L2.tNext, L2.tAsg, L2.gName, L2.tVar, L2.tC, L2.tCons, L2.tNil, L2.tCB, L2.tOp, L2.tUn, L2.tTup, L2.tLst, L2.tB, L2.tOr, L2.tAnd, L2.tNot, L2.tAndV, L2.tOrV, L2.tNotV, L2.tIf, L2.tTest, L2.tChain, L2.rI, L2.rI0, L2.rU, L2.tDrop, L2.tNever, L2.tCall, L2.tMeth, L2.tMake, L2.rGcd, L2.tFld, L2.sFld, L2.sFldAug, Mx.sFldA, Mx.sFldAugA, L2.rAdd, L2.rSub, L2.rEq, L2.rNe, L2.tDGet, L2.tDIn, L2.tDNotIn, L2.sDPut,
  Mx.isi_int_bool, Mx.isi_int_int, Mx.isi_int_tuple, Mx.isi_int_list, Mx.isi_int_str, Mx.scal_int, Mx.scal_str, Mx.scal_bl, Mx.ofString_inj, Mx.ofString_beq, Mx.lk_cons, Mx.pf_nil, Mx.pf_cons, Mx.sz1, Mx.sz2, List.lookup_nil, String.reduceEq, decide_true, decide_false, decide_eq_true_eq, Int.natAbs_natCast, L2.upd_same, L2.upd_upd, L2.cxOf, L2.gSub, L2.tPar, L2.tPar3, Mx.fsM, L2.gCons, L2.gNil, L2.tBM0, L2.tBM, L2.sDPut, L2.tDNewK, Mx.optV, *])

section
variable {P : Program} {w : World} {K : PySem.W.Frag} {mg : Str → Option Value} {base : Heap} {cs : Cs} {C : Addr}
theorem pr_app {α β : Type} {R : α → β → Prop} : ∀ {xs xs' : List α} {ys : List β}, Paired R (xs ++ xs') ys → ∃ y1 y2, ys = y1 ++ y2 ∧ Paired R xs y1 ∧ Paired R xs' y2
  | [], _, ys, h => ⟨[], ys, rfl, .nil, h⟩
  | x :: r, xs', _, .cons (b := y) h t => by
    obtain ⟨y1, y2, e, h1, h2⟩ := pr_app t
    exact ⟨y :: y1, y2, by rw [e]; rfl, .cons h h1, h2⟩
theorem pr_join {α β : Type} {R : α → β → Prop} : ∀ {xs xs' : List α} {ys ys' : List β}, Paired R xs ys → Paired R xs' ys' → Paired R (xs ++ xs') (ys ++ ys')
  | _, _, _, _, .nil, h => h
  | _, _, _, _, .cons a t, h => .cons a (pr_join t h)
/-- what a comprehension over so many took, in the words of the list -/
theorem pr_take {α : Type} {T : α → V → Prop} {xs : List α} (g : α → Bool) {p : Nat → Bool} (hp : ∀ j x, xs[j]? = some x → p j = g x) : ∀ (n : Nat) {ys : List V}, n ≤ xs.length → Paired (fun j y => ∃ x, xs[j]? = some x ∧ T x y) ((List.range n).filter p) ys → Paired T ((xs.take n).filter g) ys
  | 0, ys, _, h => by
    cases h
    exact .nil
  | n + 1, ys, hn, h => by
    rw [List.range_succ, List.filter_append] at h
    obtain ⟨y1, y2, rfl, h1, h2⟩ := pr_app h
    have ih := pr_take g hp n (by omega) h1
    have hx := List.getElem?_eq_getElem (show n < xs.length by omega)
    rw [List.take_add_one, hx, List.filter_append]
    refine pr_join ih ?_
    show Paired T ([xs[n]].filter g) y2
    rw [List.filter_cons, List.filter_nil] at h2 ⊢
    rw [← hp n _ hx]
    cases e : p n with
    | false =>
      rw [e, if_neg (by simp)] at h2
      rw [if_neg (by simp)]
      cases h2
      exact .nil
    | true =>
      rw [e] at h2
      rw [if_pos rfl] at h2 ⊢
      cases h2 with
      | cons a t =>
        cases t
        obtain ⟨x, e1, e2⟩ := a
        rw [hx] at e1
        cases e1
        exact .cons e2 .nil
theorem pr_of_map {α β γ : Type} {R : β → γ → Prop} (f : α → β) : ∀ {xs : List α} {ys : List γ}, Paired (fun x y => R (f x) y) xs ys → Paired R (xs.map f) ys
  | _, _, .nil => .nil
  | _, _, .cons h t => .cons h (pr_of_map f t)
theorem pr_swap {α β : Type} {R : α → β → Prop} : ∀ {xs : List α} {ys : List β}, Paired R xs ys → Paired (fun y x => R x y) ys xs
  | _, _, .nil => .nil
  | _, _, .cons h t => .cons h (pr_swap t)
theorem pairs_eq {H : Hp} : ∀ {xs ys : List V} {ps : List (Int × Int)}, Paired (IsPair H) xs ps → Paired (IsPair H) ys ps → Paired (EqT K H 1) xs ys
  | _, _, _, .nil, .nil => .nil
  | _, _, _, .cons h t, .cons h' t' => by
    obtain ⟨a, rfl, ha⟩ := h
    obtain ⟨b, rfl, hb⟩ := h'
    exact .cons (.inr ⟨a, b, _, _, rfl, rfl, .inl ⟨.inl ha, .inl hb⟩, by show 2 ≤ 100000; decide, .cons (.inl ⟨_, rfl, rfl⟩) (.cons (.inl ⟨_, rfl, rfl⟩) .nil)⟩) (pairs_eq t t')
theorem lacks_filter {vs : List MV} (hn : (vs.map (·.1)).Nodup) (t : Int) : ((vs.map (·.1)).filter (lackN vs t)).map (fun n => (n, t)) = (vs.filter fun e => e.2.2.line.lacks t).map fun e => (e.1, t) := by
  have : ∀ l : List MV, (∀ e ∈ l, e ∈ vs) → ((l.map (·.1)).filter (lackN vs t)).map (fun n => (n, t)) = (l.filter fun e => e.2.2.line.lacks t).map fun e => (e.1, t) := by
    intro l
    induction l with
    | nil => intro _; rfl
    | cons e r ih =>
      intro h
      have he := lackN_mem hn (h e List.mem_cons_self) t
      rw [List.map_cons, List.filter_cons, List.filter_cons, he]
      cases e.2.2.line.lacks t with
      | false => simpa using ih fun x hx => h x (List.mem_cons_of_mem _ hx)
      | true =>
        rw [if_pos rfl, if_pos rfl, List.map_cons, List.map_cons, ih fun x hx => h x (List.mem_cons_of_mem _ hx)]
  exact this vs fun _ h => h
theorem t2b_ok (B : Blt mg) (G : G06 P w K mg base cs) {f : Addr} {cdv : Value} {A : Around} {outer : List Env} {s : Shared} {H : Hp} {E : XK} (hr : Room 8 (A.deeper (PyProof.Rows.envOfC "law" (defScope s_law) s.heap.objs.size f cdv))) :
    ∃ t, PSs (XL P w K mg base f cdv A outer s H E) (b2S.drop 1) t ∧ ∀ (D : Ends) (Hb H1 : Hp) (sc r m d k vd du : Addr) (ns : List Int) (st : MixS) (W : WD) (B : Nat) (ls : List V) (x5 x6 x7 x10 x11 x12 : Option V) (soft : Int)
      (hb : RowAt K Hb r sc ns) (hw : Rw K Hb r sc ns H1) (hB : Bth K cs H1 m d k st W B [r, vd, du]) (hF : Fr Hb m d k st W) (hrv : r ≠ vd) (hrd : r ≠ du) (hvu : vd ≠ du) (hbv : Hb vd = none) (hbd : Hb du = none)
      (hvd : H1 vd = some (.dK (vkv st.vs W))) (hlt : st.names.Pairwise (· < ·)) (hsz : st.vs.length ≤ 6) (hdu : H1 du = some (.lst ls)) (hpr : Paired (IsPair H1) ls st.lacked) (hll : st.lacked.length ≤ 1000)
      (q : ∀ H2 st' ls', Bth K cs H2 m d k st' W B [r, vd, du] → Rw K Hb r sc ns H2 → Fr Hb m d k st' W → H2 vd = some (.dK (vkv st'.vs W)) → H2 du = some (.lst ls') → Paired (IsPair H2) ls' st'.lacked → st'.names = st.names → st'.coming = st.coming + 1 → st'.lacked.length ≤ st.lacked.length + 6 → D.nx [some (.ref sc), some (.ref r), some (.int soft), some (.ref m), some (.ref vd), x5, x6, x7, some (.ref du), some (.int st.coming), x10, x11, x12, none] H2),
      t D [some (.ref sc), some (.ref r), some (.int soft), some (.ref m), some (.ref vd), x5, x6, x7, some (.ref du), some (.int st.coming), x10, x11, x12, none] H1 := by
  have nd := sc_law.nd
  have hu := hu_of hr
  have r1 := hr.mono (show 1 ≤ 8 by decide)
  have r2 := hr.mono (show 2 ≤ 8 by decide)
  have r3 := hr.mono (show 3 ≤ 8 by decide)
  have r4 := hr.mono (show 4 ≤ 8 by decide)
  have r6 := hr.mono (show 6 ≤ 8 by decide)
  have r8 := hr.mono (show 8 ≤ 8 by decide)
  refine ⟨_, (pss_cons (ps_expr (pe_bm PySem.F.plainAttrs_list PySem.F.slot_list_extend PySem.F.type_list_extend mt_extend (pv 8) (pa_cons (pe_lock (pe_lc (own := [("_law_name", 5)]) (tt := tB (tCall (sp_own_bool LineS.lacks) [] E0 (tCons (tDGet (tVar 4) (tVar 5)) (tCons (tVar 9) tNil)))) (te := tTup (tCons (tVar 5) (tCons (tVar 9) tNil))) rfl nd (pi_keys (pv 4)) (blkOk_by (N := N06) (sc := defScope s_law) (by decide +kernel)) (fun _ _ _ _ _ => pg_name (i := 5) nd rfl (.inl rfl)) (fun _ _ _ _ _ => pts_one (pt_val (p_call G.lacks r3 (pa_cons (pe_dget hu (pv 4) (pv 5) (fun _ _ => rfl)) (pa_cons (pv 9) pa_nil))))) (fun _ _ _ _ _ => (pe_tup (pa_cons (pv 5) (pa_cons (pv 9) pa_nil)))))) pa_nil)))
      (pss_cons (ps_expr (p_meth0 G.beat r8 (pv 3)))
      (pss_one (ps_if (pt_not (pt_val (p_call G.alike2 r3 (pa_cons (p_meth0 G.missed r1 (pv 3)) (pa_cons (pv 8) pa_nil))))) pss_never pss_nil)))), ?_⟩
  intro D Hb H1 sc r m d k vd du ns st W B ls x5 x6 x7 x10 x11 x12 soft hb hw hB hF hrv hrd hvu hbv hbd hvd hlt hsz hdu hpr hll q
  have hrX : r ∈ [r, vd, du] := by simp
  have hvX : vd ∈ [r, vd, du] := by simp
  have hdX : du ∈ [r, vd, du] := by simp
  have hnd : st.names.Nodup := hlt.imp fun h => by omega
  walk_at "rd"
  refine ⟨.inl ⟨rfl, _, .inl (.inl hdu)⟩, vd, _, hvd, trivial, fun od => ?_⟩
  have sL := Stp.put (o := .frz od (.dK (vkv st.vs W))) hvd (fun xs z => nomatch z)
  have eL : upd H1 vd (.frz od (.dK (vkv st.vs W))) vd = some (.frz od (.dK (vkv st.vs W))) := upd_same
  have hBL := hB.stX sL (by simp)
  have hdL := sL.keep _ _ hdu (by simpa using hvu.symm)
  have hwL := hw.mv hb sL (by simpa using hbv)
  generalize upd H1 vd (.frz od (.dK (vkv st.vs W))) = HL at *
  have kat : ∀ {j : Nat} {kk : Key} {v : V}, (vkv st.vs W)[j]? = some (kk, v) → ∃ e, st.vs[j]? = some e ∧ kk = Sum.inl e.1 := fun {j kk v} h => by
    unfold vkv at h
    rw [List.getElem?_map] at h
    cases ee : st.vs[j]? with
    | none => rw [ee] at h; cases h
    | some e => rw [ee] at h; cases h; exact ⟨e, rfl, rfl⟩
  refine lc_keysR (v := 4) rfl eL (F := []) (by simp) (fun _ => True) (fun H j y => ∃ e, st.vs[j]? = some e ∧ IsPair H y (e.1, st.coming)) (fun j => match st.vs[j]? with | some e => e.2.2.line.lacks st.coming | none => false)
    trivial (by simp) (fun _ _ _ _ _ _ _ => trivial) (fun F' H H' j y h s => ?_) (by unfold vkv; rw [List.length_map]; omega) (fun j kk w H hk _ s Q' qq => ?_) (fun j kk w H hk hp _ s Q' qq => ?_) fun D' H' ys hD' _ s' hl' hp' => ?_
  · obtain ⟨e, he, hp⟩ := h
    exact ⟨e, he, hp.st s⟩
  · obtain ⟨e, hej, rfl⟩ := kat hk
    have he := List.mem_of_getElem? hej
    refine ⟨_, rfl, _, rfl, vd, _, rfl, .inl ⟨_, Sum.inl e.1, .inr ⟨od, s.keep _ _ eL (by simp)⟩, rfl, (vkv_get W he hnd).symm⟩, _, rfl, _, e.2.2.line, st.coming, rfl, ((hBL.ov e he).st s (by simp) (by simp)).ov, (hBL.ok e he).1.line, fun H2 s2 => ⟨_, rfl, ?_⟩⟩
    have := qq H2 trivial (s.trans s2) s2
    rw [hej] at this
    exact this
  · obtain ⟨e, hej, rfl⟩ := kat hk
    refine ⟨_, rfl, _, rfl, (by decide : 2 ≤ sizeLine), fun t ht => qq _ _ ⟨e, hej, t, rfl, upd_same⟩ trivial (s.trans (Stp.new ht)) (Stp.new ht)⟩
  · have hv' := s'.keep _ _ eL (by simp)
    have hpm : Paired (IsPair H') ys (((st.names).filter (lackN st.vs st.coming)).map fun n => (n, st.coming)) := by
      have h1 := pr_take (T := fun (e : MV) y => IsPair H' y (e.1, st.coming)) (xs := st.vs) (fun e => e.2.2.line.lacks st.coming) (fun j x hx => by rw [hx]) (vkv st.vs W).length (by unfold vkv; rw [List.length_map]; exact Nat.le_refl _) hp'
      rw [show st.vs.take (vkv st.vs W).length = st.vs from List.take_of_length_le (by unfold vkv; rw [List.length_map]; exact Nat.le_refl _)] at h1
      have h2 := pr_swap (pr_of_map (R := fun (p : Int × Int) y => IsPair H' y p) (fun e : MV => (e.1, st.coming)) h1)
      rw [← lacks_filter hnd] at h2
      exact h2
    refine ⟨hv', ?_⟩
    have sU := Stp.put (o := .dK (vkv st.vs W)) hv' (fun xs z => nomatch z)
    have eU : upd H' vd (.dK (vkv st.vs W)) vd = some (.dK (vkv st.vs W)) := upd_same
    have hBU := (hBL.st0 s').stX sU (by simp)
    have hdU := sU.keep _ _ (s'.keep _ _ hdL (by simp)) (by simpa using hvu.symm)
    have hDv : D' ≠ vd := fun z => by rw [z, eL] at hD'; cases hD'
    have hlU := sU.keep _ _ hl' (by simpa using hDv)
    have hwU := (hwL.st0 hb s').mv hb sU (by simpa using hbv)
    have hpU := pairs_st sU hpm
    have hpl := (pairs_st sL hpr)
    have hplU := pairs_st sU (pairs_st s' hpl)
    generalize upd H' vd (.dK (vkv st.vs W)) = HU at *
    have hll2 : ls.length = st.lacked.length := hpr.length
    have hyl : ys.length ≤ 6 := by
      rw [hpm.length, List.length_map]
      refine Nat.le_trans (List.length_filter_le _ _) ?_
      unfold MixS.names
      rw [List.length_map]
      exact hsz
    refine ⟨du, D', ls, ys, rfl, rfl, hdU, hlU, Nat.le_trans (show ls.length + ys.length ≤ 2000 by omega) (by decide), ?_⟩
    have sE := Stp.put (o := .lst (ls ++ ys)) hdU (fun xs z => nomatch z)
    have eE : upd HU du (.lst (ls ++ ys)) du = some (.lst (ls ++ ys)) := upd_same
    have hBE := hBU.stX sE (by simp)
    have hvE := sE.keep _ _ eU (by simpa using hvu)
    have hwE := hwU.mv hb sE (by simpa using hbd)
    have hpE : Paired (IsPair (upd HU du (.lst (ls ++ ys)))) (ls ++ ys) (st.lacked ++ ((st.names).filter (lackN st.vs st.coming)).map fun n => (n, st.coming)) := pr_join (pairs_st sE hplU) (pairs_st sE hpU)
    generalize upd HU du (.lst (ls ++ ys)) = HE at *
    obtain ⟨dxa, hma⟩ := id hBE.mix.ob
    refine ⟨dxa, _, hma, by walk_at "rd", ?_⟩
    have hO : MixOk 7 st := ⟨hB.so.1, hB.so.2, by decide, fun e he => (hB.ok e he).1, fun e he => (hB.ok e he).2.2.2, hsz, by omega, by omega⟩
    refine ⟨m, d, k, st, 7, rfl, hBE.mix, hO, fun rr zs H5 hperm hsort _ hM5 s5 => ?_⟩
    have hzs : zs = st.names := names_sorted hperm hsort hlt
    subst hzs
    have hB5 := hBE.beat s5 hM5
    have hw5 := hwE.mv hb s5 hF.ft
    have hv5 := s5.keep _ _ hvE (hB.xo hvX).1
    have hd5 := s5.keep _ _ eE (hB.xo hdX).1
    have hp5 := pairs_st s5 hpE
    obtain ⟨dxb, hmb⟩ := id hB5.mix.ob
    refine ⟨dxb, _, hmb, by walk_at "rd", ?_⟩
    refine ⟨m, d, k, _, rfl, hB5.mix, fun p H6 ls' hp6 s6 hl6 hpl6 => ?_⟩
    have hp56 := pairs_st s6 hp5
    have hd6 := s6.keep _ _ hd5 (by simp)
    refine ⟨.ref p, .ref du, rfl, .inr ⟨p, du, ls', ls ++ ys, rfl, rfl, .inr ⟨hl6, hd6⟩, ?_, pairs_eq hpl6 hp56⟩, fun H7 s7 => ⟨_, rfl, ?_⟩⟩
    · rw [hpl6.length]
      show (st.lacked ++ _).length ≤ 100000
      rw [List.length_append, List.length_map]
      have : (st.names.filter (lackN st.vs st.coming)).length ≤ 6 := Nat.le_trans (List.length_filter_le _ _) (by unfold MixS.names; rw [List.length_map]; exact hsz)
      omega
    · rw [if_neg (by simp)]
      have s57 : Stp [] H5 H7 := s6.trans s7
      have hnm : (st.beat st.names).names = st.names := by
        unfold MixS.names MixS.beat
        show (st.vs.map st.step).map (·.1) = _
        rw [List.map_map]
        rfl
      refine q H7 _ _ (hB5.st0 s57) (hw5.st0 hb s57) ⟨by rw [foot_beat]; exact hF.ft, by rw [hnm]; exact hF.ow⟩ ?_ (s57.keep _ _ hd5 (by simp)) (pairs_st s57 hp5) hnm rfl ?_
      · rw [vkv_beat]
        exact s57.keep _ _ hv5 (by simp)
      · show (st.lacked ++ _).length ≤ _
        rw [List.length_append, List.length_map]
        have : (st.names.filter (lackN st.vs st.coming)).length ≤ 6 := Nat.le_trans (List.length_filter_le _ _) (by unfold MixS.names; rw [List.length_map]; exact hsz)
        omega
end
end Mx

namespace Mx
open PySem L2
set_option hygiene false in
local macro_rules | `(tactic| walk_at "rd") => `(tactic| try simp only [L2.start, List.map_cons, List.map_nil, List.length_cons, List.length_nil, Nat.reduceAdd, Nat.reduceSub, Nat.reduceLT, Nat.reduceLeDiff, List.replicate_succ, List.replicate_zero, List.append_nil, List.nil_append, List.cons_append, List.set_cons_zero, List.set_cons_succ, List.getElem?_cons_zero, List.getElem?_cons_succ,
  Option.some.injEq, List.cons.injEq, and_true, true_and, and_assoc, reduceCtorEq, L2.V.int.injEq, L2.V.ref.injEq, L2.V.bl.injEq, L2.V.str.injEq, L2.V.ty.injEq, L2.HO.ins.injEq, L2.HO.lst.injEq, L2.HO.tup.injEq, L2.HO.dK.injEq, exists_eq_left', exists_eq_left, exists_eq_right, exists_eq', exists_eq, exists_and_left, exists_and_right, reduceIte, Bool.false_eq_true, Bool.not_true, Bool.not_false,
  L2.tSeq, L2.tIfS, L2.tRet, L2.tRetN, L2.tNext, L2.tAsg, L2.gName, L2.tVar, L2.tC, L2.tCons, L2.tNil, L2.tCB, L2.tOp, L2.tUn, L2.tTup, L2.tLst, L2.tB, L2.tOr, L2.tAnd, L2.tNot, L2.tAndV, L2.tOrV, L2.tNotV, L2.tIf, L2.tTest, L2.tChain, L2.rI, L2.rI0, L2.rU, L2.tDrop, L2.tNever, L2.tCall, L2.tMeth, L2.tMake, L2.rGcd, L2.tFld, L2.sFld, L2.sFldAug, Mx.sFldA, Mx.sFldAugA, L2.rAdd, L2.rSub, L2.rEq, L2.rNe, L2.tDGet, L2.tDIn, L2.tDNotIn, L2.sDPut,
  Mx.isi_int_bool, Mx.isi_int_int, Mx.isi_int_tuple, Mx.isi_int_list, Mx.isi_int_str, Mx.scal_int, Mx.scal_str, Mx.scal_bl, Mx.ofString_inj, Mx.ofString_beq, Mx.lk_cons, Mx.pf_nil, Mx.pf_cons, Mx.sz1, Mx.sz2, List.lookup_nil, String.reduceEq, decide_true, decide_false, decide_eq_true_eq, Int.natAbs_natCast, L2.upd_same, L2.upd_upd, L2.cxOf, L2.gSub, L2.tPar, L2.tPar3, Mx.fsM, L2.gCons, L2.gNil, L2.tBM0, L2.tBM, L2.sDPut, L2.tDNewK, Mx.optV])
set_option hygiene false in
local macro_rules | `(tactic| walk_at "rds") => `(tactic| try simp only [L2.start, List.map_cons, List.map_nil, List.length_cons, List.length_nil, Nat.reduceAdd, Nat.reduceSub, Nat.reduceLT, Nat.reduceLeDiff, List.replicate_succ, List.replicate_zero, List.append_nil, List.nil_append, List.cons_append, List.set_cons_zero, List.set_cons_succ, List.getElem?_cons_zero, List.getElem?_cons_succ,
  Option.some.injEq, List.cons.injEq, and_true, true_and, and_assoc, reduceCtorEq, L2.V.int.injEq, L2.V.ref.injEq, L2.V.bl.injEq, L2.V.str.injEq, L2.V.ty.injEq, L2.HO.ins.injEq, L2.HO.lst.injEq, L2.HO.tup.injEq, L2.HO.dK.injEq, exists_eq_left', exists_eq_left, exists_eq_right, exists_eq', exists_eq, exists_and_left, exists_and_right, reduceIte, Bool.false_eq_true, Bool.not_true, Bool.not_false,
  L2.tSeq, L2.tIfS, L2.tRet, L2.tRetN, L2.tNext, L2.tAsg, L2.gName, L2.tVar, L2.tC, L2.tCons, L2.tNil, L2.tCB, L2.tOp, L2.tUn, L2.tTup, L2.tLst, L2.tB, L2.tOr, L2.tAnd, L2.tNot, L2.tAndV, L2.tOrV, L2.tNotV, L2.tIf, L2.tTest, L2.tChain, L2.rI, L2.rI0, L2.rU, L2.tDrop, L2.tNever, L2.tCall, L2.tMeth, L2.tMake, L2.rGcd, L2.tFld, L2.sFld, L2.sFldAug, Mx.sFldA, Mx.sFldAugA, L2.rAdd, L2.rSub, L2.rEq, L2.rNe, L2.tDGet, L2.tDIn, L2.tDNotIn, L2.sDPut,
  Mx.isi_int_bool, Mx.isi_int_int, Mx.isi_int_tuple, Mx.isi_int_list, Mx.isi_int_str, Mx.scal_int, Mx.scal_str, Mx.scal_bl, Mx.ofString_inj, Mx.ofString_beq, Mx.lk_cons, Mx.pf_nil, Mx.pf_cons, Mx.sz1, Mx.sz2, List.lookup_nil, String.reduceEq, decide_true, decide_false, decide_eq_true_eq, Int.natAbs_natCast, L2.upd_same, L2.upd_upd, L2.cxOf, L2.gSub, L2.tPar, L2.tPar3, Mx.fsM, L2.gCons, L2.gNil, L2.tBM0, L2.tBM, L2.sDPut, L2.tDNewK, Mx.optV, *])

section
variable {P : Program} {w : World} {K : PySem.W.Frag} {mg : Str → Option Value} {base : Heap} {cs : Cs} {C : Addr}
theorem t2_ok (B : Blt mg) (G : G06 P w K mg base cs) {f : Addr} {cdv : Value} {A : Around} {outer : List Env} {s : Shared} {H : Hp} {E : XK} (hr : Room 8 (A.deeper (PyProof.Rows.envOfC "law" (defScope s_law) s.heap.objs.size f cdv))) :
    ∃ t, PSs (XL P w K mg base f cdv A outer s H E) b2S t ∧ ∀ (D : Ends) (Hb H1 : Hp) (sc r m d k vd du : Addr) (ns : List Int) (st : MixS) (W : WD) (B : Nat) (ls : List V) (x5 x6 x7 x10 x11 x12 : Option V) (soft : Int)
      (hb : RowAt K Hb r sc ns) (hw : Rw K Hb r sc ns H1) (hB : Bth K cs H1 m d k st W B [r, vd, du]) (hF : Fr Hb m d k st W) (hB8 : B ≤ 70000) (hrv : r ≠ vd) (hrd : r ≠ du) (hvu : vd ≠ du) (hbv : Hb vd = none) (hbd : Hb du = none)
      (hvd : H1 vd = some (.dK (vkv st.vs W))) (hlt : st.names.Pairwise (· < ·)) (hsz : st.vs.length ≤ 6) (hdu : H1 du = some (.lst ls)) (hpr : Paired (IsPair H1) ls st.lacked) (hll : st.lacked.length ≤ 1000)
      (q : ∀ H2 st' ls' y5 y10 y11 y12, Bth K cs H2 m d k st' W (B + 120) [r, vd, du] → Rw K Hb r sc ns H2 → Fr Hb m d k st' W → H2 vd = some (.dK (vkv st'.vs W)) → H2 du = some (.lst ls') → Paired (IsPair H2) ls' st'.lacked → st'.names = st.names → st'.coming = st.coming + 1 → st'.lacked.length ≤ st.lacked.length + 6 → D.nx [some (.ref sc), some (.ref r), some (.int soft), some (.ref m), some (.ref vd), y5, x6, x7, some (.ref du), some (.int st.coming), y10, y11, y12, none] H2),
      t D [some (.ref sc), some (.ref r), some (.int soft), some (.ref m), some (.ref vd), x5, x6, x7, some (.ref du), some (.int st.coming), x10, x11, x12, none] H1 := by
  have nd := sc_law.nd
  have hu := hu_of hr
  have r1 := hr.mono (show 1 ≤ 8 by decide)
  have r2 := hr.mono (show 2 ≤ 8 by decide)
  have r3 := hr.mono (show 3 ≤ 8 by decide)
  have r4 := hr.mono (show 4 ≤ 8 by decide)
  have r6 := hr.mono (show 6 ≤ 8 by decide)
  have r8 := hr.mono (show 8 ≤ 8 by decide)
  obtain ⟨t3, h3, q3⟩ := t3_ok B G (outer := outer) (H := H) (E := E) hr
  obtain ⟨tR, hR, qR⟩ := t2b_ok B G (outer := outer) (H := H) (E := E) hr
  refine ⟨_, (pss_cons (ps_lock (ps_for PassesOwn.never rfl (pi_keys (pv 4)) (pg_name (i := 5) nd rfl (.inl rfl)) h3)) hR), ?_⟩
  intro D Hb H1 sc r m d k vd du ns st W B ls x5 x6 x7 x10 x11 x12 soft hb hw hB hF hB8 hrv hrd hvu hbv hbd hvd hlt hsz hdu hpr hll q
  have hrX : r ∈ [r, vd, du] := by simp
  have hvX : vd ∈ [r, vd, du] := by simp
  have hdX : du ∈ [r, vd, du] := by simp
  have hnd : st.names.Nodup := hlt.imp fun h => by omega
  have nlen : ∀ {s : MixS}, s.names = st.names → s.vs.length = st.vs.length := fun {s} h => by
    have := congrArg List.length h
    unfold MixS.names at this
    simpa using this
  refine ⟨vd, _, hvd, trivial, fun od => ?_⟩
  have sL := Stp.put (o := .frz od (.dK (vkv st.vs W))) hvd (fun xs z => nomatch z)
  have eL : upd H1 vd (.frz od (.dK (vkv st.vs W))) vd = some (.frz od (.dK (vkv st.vs W))) := upd_same
  have hBL := hB.stX sL (by simp)
  have hdL := sL.keep _ _ hdu (by simpa using hvu.symm)
  have hwL := hw.mv hb sL (by simpa using hbv)
  have hpL := pairs_st sL hpr
  generalize upd H1 vd (.frz od (.dK (vkv st.vs W))) = HL at *
  have hvl : (vkv st.vs W).length = st.vs.length := by unfold vkv; rw [List.length_map]
  refine ⟨_, rfl, vd, od, rfl, .inl ⟨_, eL, for_it walk_keys (fun i σ H' => ∃ st' y5 y10 y11 y12, σ = [some (.ref sc), some (.ref r), some (.int soft), some (.ref m), some (.ref vd), y5, x6, x7, some (.ref du), some (.int st.coming), y10, y11, y12, none] ∧ Bth K cs H' m d k st' W (B + 20 * i) [r, vd, du] ∧ Lk m d k st st' ∧ Rw K Hb r sc ns H' ∧ H' vd = some (.frz od (.dK (vkv st.vs W))) ∧ H' du = some (.lst ls) ∧ Paired (IsPair H') ls st.lacked)
    ⟨st, _, _, _, _, rfl, hBL, Lk.refl, hwL, eL, hdL, hpL⟩ (fun i σ H' _ h => ?_) (fun i x σ H' H'' hi h hy => ?_) (fun σ H' h => ?_)⟩⟩
  · obtain ⟨_, _, _, _, _, _, _, _, _, h, _⟩ := h
    exact h
  · obtain ⟨st', y5, y10, y11, y12, rfl, hB', hL, hw', hv', hd', hp'⟩ := h
    obtain ⟨rfl, kk, v, hk, rfl⟩ := hy
    have ek : ∃ e ∈ st'.vs, kk = Sum.inl e.1 := by
      rw [← vkv_names W hL.nm] at hk
      unfold vkv at hk
      rw [List.getElem?_map] at hk
      cases ee : st'.vs[i]? with
      | none => rw [ee] at hk; cases hk
      | some e => rw [ee] at hk; cases hk; exact ⟨e, List.mem_of_getElem? ee, rfl⟩
    obtain ⟨e, he, rfl⟩ := ek
    have hnd' : st'.names.Nodup := by rw [hL.nm]; exact hnd
    have hF' := hF.lk hL
    refine q3 _ Hb _ sc r m d k vd ns st' W (B + 20 * i) [r, vd, du] e od x6 x7 _ _ _ _ _ soft hb hw' hB' hF' he (by omega) hrX hrv (by rw [vkv_names W hL.nm]; exact hv') hnd' fun H2 st2 z10 z11 z12 hB2 hL2 hw2 s2 => ?_
    have hX2 : ∀ b ∈ [r, vd, du], b ≠ r → b ∉ r :: (st'.foot m d k ++ own W st'.names) := fun b hb hbr z => by
      rcases List.mem_cons.mp z with e | z
      · exact hbr e
      · rcases List.mem_append.mp z with z | z
        · exact (hB'.xo hb).1 z
        · exact (hB'.xo hb).2 z
    exact ⟨st2, _, _, _, _, rfl, hB2, hL.trans hL2, hw2, s2.keep _ _ hv' (hX2 vd hvX hrv.symm), s2.keep _ _ hd' (hX2 du hdX hrd.symm), pairs_st s2 hp'⟩
  · obtain ⟨st', y5, y10, y11, y12, rfl, hB', hL, hw', hv', hd', hp'⟩ := h
    refine ⟨hv', ?_⟩
    have sU := Stp.put (o := .dK (vkv st.vs W)) hv' (fun xs z => nomatch z)
    have eU : upd H' vd (.dK (vkv st.vs W)) vd = some (.dK (vkv st.vs W)) := upd_same
    have hBU := hB'.stX sU (by simp)
    have hdU := sU.keep _ _ hd' (by simpa using hvu.symm)
    have hwU := hw'.mv hb sU (by simpa using hbv)
    have hpU := pairs_st sU hp'
    generalize upd H' vd (.dK (vkv st.vs W)) = HU at *
    have ec := hL.co
    rw [← ec]
    refine qR D Hb HU sc r m d k vd du ns st' W _ ls y5 x6 x7 y10 y11 y12 soft hb hwU hBU (hF.lk hL) hrv hrd hvu hbv hbd (by rw [vkv_names W hL.nm]; exact eU) (by rw [hL.nm]; exact hlt) (by rw [nlen hL.nm]; exact hsz) hdU (by rw [hL.la]; exact hpU) (by rw [hL.la]; exact hll) fun H2 st2 ls2 hB2 hw2 hF2 hv2 hd2 hp2 hn2 hc2 hl2 => ?_
    rw [ec]
    exact q H2 st2 ls2 _ _ _ _ (hB2.up (by omega)) hw2 hF2 hv2 hd2 hp2 (hn2.trans hL.nm) (by rw [hc2, ec]) (by rw [hL.la] at hl2; exact hl2)
end
end Mx

namespace Mx
open PySem L2
set_option hygiene false in
local macro_rules | `(tactic| walk_at "rd") => `(tactic| try simp only [L2.start, List.map_cons, List.map_nil, List.length_cons, List.length_nil, Nat.reduceAdd, Nat.reduceSub, Nat.reduceLT, Nat.reduceLeDiff, List.replicate_succ, List.replicate_zero, List.append_nil, List.nil_append, List.cons_append, List.set_cons_zero, List.set_cons_succ, List.getElem?_cons_zero, List.getElem?_cons_succ,
  Option.some.injEq, List.cons.injEq, and_true, true_and, and_assoc, reduceCtorEq, L2.V.int.injEq, L2.V.ref.injEq, L2.V.bl.injEq, L2.V.str.injEq, L2.V.ty.injEq, L2.HO.ins.injEq, L2.HO.lst.injEq, L2.HO.tup.injEq, L2.HO.dK.injEq, exists_eq_left', exists_eq_left, exists_eq_right, exists_eq', exists_eq, exists_and_left, exists_and_right, reduceIte, Bool.false_eq_true, Bool.not_true, Bool.not_false,
  L2.tSeq, L2.tIfS, L2.tRet, L2.tRetN, L2.tNext, L2.tAsg, L2.gName, L2.tVar, L2.tC, L2.tCons, L2.tNil, L2.tCB, L2.tOp, L2.tUn, L2.tTup, L2.tLst, L2.tB, L2.tOr, L2.tAnd, L2.tNot, L2.tAndV, L2.tOrV, L2.tNotV, L2.tIf, L2.tTest, L2.tChain, L2.rI, L2.rI0, L2.rU, L2.tDrop, L2.tNever, L2.tCall, L2.tMeth, L2.tMake, L2.rGcd, L2.tFld, L2.sFld, L2.sFldAug, Mx.sFldA, Mx.sFldAugA, L2.rAdd, L2.rSub, L2.rEq, L2.rNe, L2.tDGet, L2.tDIn, L2.tDNotIn, L2.sDPut,
  Mx.isi_int_bool, Mx.isi_int_int, Mx.isi_int_tuple, Mx.isi_int_list, Mx.isi_int_str, Mx.scal_int, Mx.scal_str, Mx.scal_bl, Mx.ofString_inj, Mx.ofString_beq, Mx.lk_cons, Mx.pf_nil, Mx.pf_cons, Mx.sz1, Mx.sz2, List.lookup_nil, String.reduceEq, decide_true, decide_false, decide_eq_true_eq, Int.natAbs_natCast, L2.upd_same, L2.upd_upd, L2.cxOf, L2.gSub, L2.tPar, L2.tPar3, Mx.fsM, L2.gCons, L2.gNil, L2.tBM0, L2.tBM, L2.sDPut, L2.tDNewK, Mx.optV])
set_option hygiene false in
local macro_rules | `(tactic| walk_at "rds") => `(tactic| try simp only [L2.start, List.map_cons, List.map_nil, List.length_cons, List.length_nil, Nat.reduceAdd, Nat.reduceSub, Nat.reduceLT, Nat.reduceLeDiff, List.replicate_succ, List.replicate_zero, List.append_nil, List.nil_append, List.cons_append, List.set_cons_zero, List.set_cons_succ, List.getElem?_cons_zero, List.getElem?_cons_succ,
  Option.some.injEq, List.cons.injEq, and_true, true_and, and_assoc, reduceCtorEq, L2.V.int.injEq, L2.V.ref.injEq, L2.V.bl.injEq, L2.V.str.injEq, L2.V.ty.injEq, L2.HO.ins.injEq, L2.HO.lst.injEq, L2.HO.tup.injEq, L2.HO.dK.injEq, exists_eq_left', exists_eq_left, exists_eq_right, exists_eq', exists_eq, exists_and_left, exists_and_right, reduceIte, Bool.false_eq_true, Bool.not_true, Bool.not_false,
  L2.tSeq, L2.tIfS, L2.tRet, L2.tRetN, L2.tNext, L2.tAsg, L2.gName, L2.tVar, L2.tC, L2.tCons, L2.tNil, L2.tCB, L2.tOp, L2.tUn, L2.tTup, L2.tLst, L2.tB, L2.tOr, L2.tAnd, L2.tNot, L2.tAndV, L2.tOrV, L2.tNotV, L2.tIf, L2.tTest, L2.tChain, L2.rI, L2.rI0, L2.rU, L2.tDrop, L2.tNever, L2.tCall, L2.tMeth, L2.tMake, L2.rGcd, L2.tFld, L2.sFld, L2.sFldAug, Mx.sFldA, Mx.sFldAugA, L2.rAdd, L2.rSub, L2.rEq, L2.rNe, L2.tDGet, L2.tDIn, L2.tDNotIn, L2.sDPut,
  Mx.isi_int_bool, Mx.isi_int_int, Mx.isi_int_tuple, Mx.isi_int_list, Mx.isi_int_str, Mx.scal_int, Mx.scal_str, Mx.scal_bl, Mx.ofString_inj, Mx.ofString_beq, Mx.lk_cons, Mx.pf_nil, Mx.pf_cons, Mx.sz1, Mx.sz2, List.lookup_nil, String.reduceEq, decide_true, decide_false, decide_eq_true_eq, Int.natAbs_natCast, L2.upd_same, L2.upd_upd, L2.cxOf, L2.gSub, L2.tPar, L2.tPar3, Mx.fsM, L2.gCons, L2.gNil, L2.tBM0, L2.tBM, L2.sDPut, L2.tDNewK, Mx.optV, *])

section
variable {P : Program} {w : World} {K : PySem.W.Frag} {mg : Str → Option Value} {base : Heap} {cs : Cs} {C : Addr}
theorem put_len {κ : Type} [DecidableEq κ] {kvs : List (κ × V)} {k : κ} {x v : V} (h : valV kvs k = some x) : (putK kvs k v).length = kvs.length := by
  have e := valV_any k kvs
  rw [h] at e
  unfold putK
  rw [if_pos (by simpa using e)]
  simp
theorem t1c_ok (B : Blt mg) (G : G06 P w K mg base cs) {f : Addr} {cdv : Value} {A : Around} {outer : List Env} {s : Shared} {H : Hp} {E : XK} (hr : Room 8 (A.deeper (PyProof.Rows.envOfC "law" (defScope s_law) s.heap.objs.size f cdv))) :
    ∃ t, PS (XL P w K mg base f cdv A outer s H E) (b1S.getD 4 pass0s) t ∧ ∀ (D : Ends) (Hb H1 : Hp) (sc r m d k vd p : Addr) (ns : List Int) (st : MixS) (W : WD) (B : Nat) (e : MV) (x6 x7 x8 x9 x10 x11 x12 : Option V) (soft : Int)
      (hb : RowAt K Hb r sc ns) (hw : Rw K Hb r sc ns H1) (hB : Bth K cs H1 m d k st W B [r, vd, p]) (hF : Fr Hb m d k st W) (hrv : r ≠ vd) (hbv : Hb vd = none) (hvd : H1 vd = some (.dK (vkv st.vs W))) (he : e ∈ st.vs) (q : (∀ H2 st', Bth K cs H2 m d k st' W B [r, vd, p] → Lk m d k st st' → Rw K Hb r sc ns H2 → H2 vd = some (.dK (vkv st.vs W)) → Stp (r :: (st.foot m d k ++ own W st.names)) H1 H2 → D.nx [some (.ref sc), some (.ref r), some (.int soft), some (.ref m), some (.ref vd), some (.int e.1), x6, x7, x8, x9, x10, x11, x12, none] H2)), t D [some (.ref sc), some (.ref r), some (.int soft), some (.ref m), some (.ref vd), some (.int e.1), x6, x7, x8, x9, x10, x11, x12, none] H1 := by
  have nd := sc_law.nd
  have hu := hu_of hr
  have r1 := hr.mono (show 1 ≤ 8 by decide)
  have r2 := hr.mono (show 2 ≤ 8 by decide)
  have r3 := hr.mono (show 3 ≤ 8 by decide)
  have r4 := hr.mono (show 4 ≤ 8 by decide)
  have r6 := hr.mono (show 6 ≤ 8 by decide)
  have r8 := hr.mono (show 8 ≤ 8 by decide)
  refine ⟨_, (ps_if (pt_cmpR op_eq (p_call G.taken r1 (pa_cons (pv 1) (pa_cons pe_int pa_nil))) pe_int (nomark _)) (pss_one (ps_expr (p_meth G.hush r4 (pv 3) (pa_cons (pv 5) pa_nil)))) pss_nil), ?_⟩
  intro D Hb H1 sc r m d k vd p ns st W B e x6 x7 x8 x9 x10 x11 x12 soft hb hw hB hF hrv hbv hvd he q
  walk_at "rd"
  refine ⟨r, sc, ns, 4, rfl, hw.1, by decide, fun c H2 c0 c1 hR2 s2 => ?_⟩
  have hw2 := hw.go hR2 s2
  have hB2 := hB.stX s2 (by simp)
  have hv2 := s2.keep _ _ hvd (by simpa using hrv.symm)
  refine ⟨rfl, ?_⟩
  by_cases hc : (V.int c) = V.int 0
  · rw [if_pos hc]
    obtain ⟨dx, hma⟩ := id hB2.mix.ob
    have hok := hB2.ok e he
    refine ⟨dx, _, hma, by walk_at "rd", m, d, k, st, e, rfl, hB2.mix, he, hok.2.2.2.1, hok.2.2.2.2, fun H3 hM3 s3 => ?_⟩
    have hap := hB2.ap e he
    refine q H3 _ (hB2.turn he s3 (fun b hb => .inl hb) hM3 ((hB2.ov e he).st s3 (fun z => hap.1 (mem_foot he z)) (fun z => hap.2 (mem_foot he z))) (Nat.le_refl _) ?_ hok.2.1 hok.2.2.1) (Lk.set _ _ _ _ _ _) (hw2.mv hb s3 fun b hb => hF.ft b (mem_foot he hb)) (s3.keep _ _ hv2 fun z => (hB2.xo (by simp : vd ∈ [r, vd, p])).1 (mem_foot he z)) ((s2.trans s3).sub fun b hb => by
      rcases List.mem_append.mp hb with z | z
      · rw [List.mem_singleton.mp z]; exact List.mem_cons_self
      · exact List.mem_cons_of_mem _ (List.mem_append_left _ (mem_foot he z)))
    have := hok.1
    exact ⟨this.line, this.loud, this.word, this.stR, this.stF, this.part, this.partS, this.height⟩
  · rw [if_neg hc]
    exact q H2 st hB2 Lk.refl hw2 hv2 (s2.sub (by simp))
theorem t1b_ok (B : Blt mg) (G : G06 P w K mg base cs) {f : Addr} {cdv : Value} {A : Around} {outer : List Env} {s : Shared} {H : Hp} {E : XK} (hr : Room 8 (A.deeper (PyProof.Rows.envOfC "law" (defScope s_law) s.heap.objs.size f cdv))) :
    ∃ t, PS (XL P w K mg base f cdv A outer s H E) (b1S.getD 3 pass0s) t ∧ ∀ (D : Ends) (Hb H1 : Hp) (sc r m d k vd p : Addr) (ns : List Int) (st : MixS) (W : WD) (B : Nat) (e : MV) (x6 x7 x8 x9 x10 x11 x12 : Option V) (soft : Int)
      (hb : RowAt K Hb r sc ns) (hw : Rw K Hb r sc ns H1) (hB : Bth K cs H1 m d k st W B [r, vd, p]) (hF : Fr Hb m d k st W) (hrv : r ≠ vd) (hbv : Hb vd = none) (hvd : H1 vd = some (.dK (vkv st.vs W))) (he : e ∈ st.vs) (hnd : st.names.Nodup) (hmn : e.2.2.line.many = none) (hre : e.2.2.line.reach = 0) (q : (∀ H2 st', Bth K cs H2 m d k st' W B [r, vd, p] → Lk m d k st st' → Rw K Hb r sc ns H2 → H2 vd = some (.dK (vkv st.vs W)) → Stp (r :: (st.foot m d k ++ own W st.names)) H1 H2 → D.nx [some (.ref sc), some (.ref r), some (.int soft), some (.ref m), some (.ref vd), some (.int e.1), x6, x7, x8, x9, x10, x11, x12, none] H2)), t D [some (.ref sc), some (.ref r), some (.int soft), some (.ref m), some (.ref vd), some (.int e.1), x6, x7, x8, x9, x10, x11, x12, none] H1 := by
  have nd := sc_law.nd
  have hu := hu_of hr
  have r1 := hr.mono (show 1 ≤ 8 by decide)
  have r2 := hr.mono (show 2 ≤ 8 by decide)
  have r3 := hr.mono (show 3 ≤ 8 by decide)
  have r4 := hr.mono (show 4 ≤ 8 by decide)
  have r6 := hr.mono (show 6 ≤ 8 by decide)
  have r8 := hr.mono (show 8 ≤ 8 by decide)
  refine ⟨_, (ps_if (pt_cmpR op_eq (p_call G.taken r1 (pa_cons (pv 1) (pa_cons pe_int pa_nil))) pe_int (nomark _)) (pss_cons (ps_dput hu (pe_dget hu (pv 4) (pv 5) (fun _ _ => rfl)) pe_str (pe_op op_add pe_int (p_call G.taken r1 (pa_cons (pv 1) (pa_cons pe_int pa_nil)))) (by rfl))
      (pss_one (ps_expr (p_meth G.endd r4 (pv 3) (pa_cons (pv 5) (pa_cons (pe_dget hu (pe_dget hu (pv 4) (pv 5) (fun _ _ => rfl)) pe_str (fun _ _ => rfl)) pa_nil)))))) pss_nil), ?_⟩
  intro D Hb H1 sc r m d k vd p ns st W B e x6 x7 x8 x9 x10 x11 x12 soft hb hw hB hF hrv hbv hvd he hnd hmn hre q
  walk_at "rd"
  refine ⟨r, sc, ns, 3, rfl, hw.1, by decide, fun c H2 c0 c1 hR2 s2 => ?_⟩
  have hw2 := hw.go hR2 s2
  have hB2 := hB.stX s2 (by simp)
  have hv2 := s2.keep _ _ hvd (by simpa using hrv.symm)
  refine ⟨rfl, ?_⟩
  by_cases hc : (V.int c) = V.int 0
  · rw [if_pos hc]
    refine ⟨r, sc, ns, 60, rfl, hR2, by decide, fun n H3 n0 n1 hR3 s3 => ?_⟩
    have hw3 := hw2.go hR3 s3
    have hB3 := hB2.stX s3 (by simp)
    have hv3 := s3.keep _ _ hv2 (by simpa using hrv.symm)
    have gV : ∀ {Ha : Hp}, Ha vd = some (.dK (vkv st.vs W)) → DGet Ha vd (.int e.1) (some (.ref (W e.1).1)) := fun {Ha} h => by
      have := DGet.k (k := (Sum.inl e.1 : Key)) h
      rw [vkv_get W he hnd] at this
      exact this
    obtain ⟨kv, kc, tp, h1, h2, h3, h4, h5, h6, h7, h8, h9, h10⟩ := hB3.ov e he
    have hap := hB3.ap e he
    have hdj := (hB3.dj e he e he).1
    have hxv := (hB3.xa vd (by simp)).2 e he
    have hok := hB3.ok e he
    refine ⟨n, rfl, _, gV hv3, _, rfl, _, DPut.k (k := kS "many") h1 (Nat.lt_of_le_of_lt h10 (by decide)), ?_⟩
    have s4 := Stp.put (o := .dK (putK kv (kS "many") (.int (1 + n)))) h1 (fun xs z => nomatch z)
    have e4 : upd H3 (W e.1).1 (.dK (putK kv (kS "many") (.int (1 + n)))) (W e.1).1 = some (.dK (putK kv (kS "many") (.int (1 + n)))) := upd_same
    have hM4 := hB3.mix.st s4 (fun b hb z => hap.1 (List.mem_singleton.mp z ▸ hb))
    have hw4 := hw3.mv hb s4 (fun b hb => by rw [List.mem_singleton.mp hb]; exact hF.ow _ (own_mem (mem_names he)).1)
    have hv4 := s4.keep _ _ hv3 (by simpa using hxv.1)
    have h64 := s4.keep _ _ h6 (by simpa using hdj.symm)
    have h34 := s4.tup _ _ h3
    generalize upd H3 (W e.1).1 _ = H4 at *
    obtain ⟨dx, hma⟩ := id hM4.ob
    have gM := dgs (v := .int (1 + n)) e4 (by rw [valV_put, if_pos rfl])
    refine ⟨dx, _, hma, by walk_at "rd", _, gV hv4, _, rfl, _, gM, m, d, k, st, e, 1 + n, rfl, hM4, he, hok.2.2.2.1, hok.2.2.2.2, hmn, by omega, by omega, by omega, fun H5 hM5 s5 => ?_⟩
    have nf : ∀ {b : Addr}, b ∉ st.foot m d k → b ∉ e.2.1.foot := fun h z => h (mem_foot he z)
    refine q H5 _ (hB3.turn he (s4.trans s5) (fun b hb => ?_) hM5 ⟨_, kc, tp, s5.keep _ _ e4 (nf hap.1), ?_, s5.tup _ _ h34, ?_, ?_, s5.keep _ _ h64 (nf hap.2), h7, ?_, h9, ?_⟩ (Nat.le_refl _) ?_ hok.2.1 (fun n' hn' => ?_)) (Lk.set _ _ _ _ _ _) (hw4.mv hb s5 fun b hb => hF.ft b (mem_foot he hb)) (s5.keep _ _ hv4 (nf (hB3.xo (by simp : vd ∈ [r, vd, p])).1)) ((s2.trans (s3.trans (s4.trans s5))).sub fun b hb => ?_)
    · rcases List.mem_append.mp hb with z | z
      · exact .inr (.inl (List.mem_singleton.mp z))
      · exact .inl z
    · rw [valV_put, if_neg (by decide)]
      exact h2
    · rw [valV_put, if_neg (by decide)]
      exact h4
    · rw [valV_put, if_neg (by decide)]
      exact h5
    · rw [valV_put, if_pos rfl]
      rfl
    · rw [put_len h8]
      exact h10
    · have := hok.1
      exact ⟨⟨this.line.pn0, this.line.pn1, this.line.pb0, this.line.pb1, this.line.cm, this.line.len⟩, this.loud, this.word, this.stR, this.stF, this.part, this.partS, this.height⟩
    · cases hn'
      exact ⟨by omega, by omega⟩
    · simp only [List.mem_append, List.mem_singleton] at hb
      rcases hb with z | z | z | z
      · exact z ▸ List.mem_cons_self
      · exact z ▸ List.mem_cons_self
      · exact List.mem_cons_of_mem _ (List.mem_append_right _ (z ▸ (own_mem (mem_names he)).1))
      · exact List.mem_cons_of_mem _ (List.mem_append_left _ (mem_foot he z))
  · rw [if_neg hc]
    exact q H2 st hB2 Lk.refl hw2 hv2 (s2.sub (by simp))
end
end Mx

namespace Mx
open PySem L2
set_option hygiene false in
local macro_rules | `(tactic| walk_at "rd") => `(tactic| try simp only [L2.start, List.map_cons, List.map_nil, List.length_cons, List.length_nil, Nat.reduceAdd, Nat.reduceSub, Nat.reduceLT, Nat.reduceLeDiff, List.replicate_succ, List.replicate_zero, List.append_nil, List.nil_append, List.cons_append, List.set_cons_zero, List.set_cons_succ, List.getElem?_cons_zero, List.getElem?_cons_succ,
  Option.some.injEq, List.cons.injEq, and_true, true_and, and_assoc, reduceCtorEq, L2.V.int.injEq, L2.V.ref.injEq, L2.V.bl.injEq, L2.V.str.injEq, L2.V.ty.injEq, L2.HO.ins.injEq, L2.HO.lst.injEq, L2.HO.tup.injEq, L2.HO.dK.injEq, exists_eq_left', exists_eq_left, exists_eq_right, exists_eq', exists_eq, exists_and_left, exists_and_right, reduceIte, Bool.false_eq_true, Bool.not_true, Bool.not_false,
  L2.tSeq, L2.tIfS, L2.tRet, L2.tRetN, L2.tNext, L2.tAsg, L2.gName, L2.tVar, L2.tC, L2.tCons, L2.tNil, L2.tCB, L2.tOp, L2.tUn, L2.tTup, L2.tLst, L2.tB, L2.tOr, L2.tAnd, L2.tNot, L2.tAndV, L2.tOrV, L2.tNotV, L2.tIf, L2.tTest, L2.tChain, L2.rI, L2.rI0, L2.rU, L2.tDrop, L2.tNever, L2.tCall, L2.tMeth, L2.tMake, L2.rGcd, L2.tFld, L2.sFld, L2.sFldAug, Mx.sFldA, Mx.sFldAugA, L2.rAdd, L2.rSub, L2.rEq, L2.rNe, L2.tDGet, L2.tDIn, L2.tDNotIn, L2.sDPut,
  Mx.isi_int_bool, Mx.isi_int_int, Mx.isi_int_tuple, Mx.isi_int_list, Mx.isi_int_str, Mx.scal_int, Mx.scal_str, Mx.scal_bl, Mx.ofString_inj, Mx.ofString_beq, Mx.lk_cons, Mx.pf_nil, Mx.pf_cons, Mx.sz1, Mx.sz2, List.lookup_nil, String.reduceEq, decide_true, decide_false, decide_eq_true_eq, Int.natAbs_natCast, L2.upd_same, L2.upd_upd, L2.cxOf, L2.gSub, L2.tPar, L2.tPar3, Mx.fsM, L2.gCons, L2.gNil, L2.tBM0, L2.tBM, L2.sDPut, L2.tDNewK, Mx.optV])
set_option hygiene false in
local macro_rules | `(tactic| walk_at "rds") => `(tactic| try simp only [L2.start, List.map_cons, List.map_nil, List.length_cons, List.length_nil, Nat.reduceAdd, Nat.reduceSub, Nat.reduceLT, Nat.reduceLeDiff, List.replicate_succ, List.replicate_zero, List.append_nil, List.nil_append, List.cons_append, List.set_cons_zero, List.set_cons_succ, List.getElem?_cons_zero, List.getElem?_cons_succ,
  Option.some.injEq, List.cons.injEq, and_true, true_and, and_assoc, reduceCtorEq, L2.V.int.injEq, L2.V.ref.injEq, L2.V.bl.injEq, L2.V.str.injEq, L2.V.ty.injEq, L2.HO.ins.injEq, L2.HO.lst.injEq, L2.HO.tup.injEq, L2.HO.dK.injEq, exists_eq_left', exists_eq_left, exists_eq_right, exists_eq', exists_eq, exists_and_left, exists_and_right, reduceIte, Bool.false_eq_true, Bool.not_true, Bool.not_false,
  L2.tSeq, L2.tIfS, L2.tRet, L2.tRetN, L2.tNext, L2.tAsg, L2.gName, L2.tVar, L2.tC, L2.tCons, L2.tNil, L2.tCB, L2.tOp, L2.tUn, L2.tTup, L2.tLst, L2.tB, L2.tOr, L2.tAnd, L2.tNot, L2.tAndV, L2.tOrV, L2.tNotV, L2.tIf, L2.tTest, L2.tChain, L2.rI, L2.rI0, L2.rU, L2.tDrop, L2.tNever, L2.tCall, L2.tMeth, L2.tMake, L2.rGcd, L2.tFld, L2.sFld, L2.sFldAug, Mx.sFldA, Mx.sFldAugA, L2.rAdd, L2.rSub, L2.rEq, L2.rNe, L2.tDGet, L2.tDIn, L2.tDNotIn, L2.sDPut,
  Mx.isi_int_bool, Mx.isi_int_int, Mx.isi_int_tuple, Mx.isi_int_list, Mx.isi_int_str, Mx.scal_int, Mx.scal_str, Mx.scal_bl, Mx.ofString_inj, Mx.ofString_beq, Mx.lk_cons, Mx.pf_nil, Mx.pf_cons, Mx.sz1, Mx.sz2, List.lookup_nil, String.reduceEq, decide_true, decide_false, decide_eq_true_eq, Int.natAbs_natCast, L2.upd_same, L2.upd_upd, L2.cxOf, L2.gSub, L2.tPar, L2.tPar3, Mx.fsM, L2.gCons, L2.gNil, L2.tBM0, L2.tBM, L2.sDPut, L2.tDNewK, Mx.optV, *])

section
variable {P : Program} {w : World} {K : PySem.W.Frag} {mg : Str → Option Value} {base : Heap} {cs : Cs} {C : Addr}
theorem t1_ok (B : Blt mg) (G : G06 P w K mg base cs) {f : Addr} {cdv : Value} {A : Around} {outer : List Env} {s : Shared} {H : Hp} {E : XK} (hr : Room 8 (A.deeper (PyProof.Rows.envOfC "law" (defScope s_law) s.heap.objs.size f cdv))) :
    ∃ t, PSs (XL P w K mg base f cdv A outer s H E) b1S t ∧ ∀ (D : Ends) (Hb H1 : Hp) (sc r m d k vd p : Addr) (ns : List Int) (st : MixS) (W : WD) (n : Int) (pl : List V) (x6 x7 x8 x9 x10 x11 x12 : Option V) (soft : Int)
      (hb : RowAt K Hb r sc ns) (hw : Rw K Hb r sc ns H1) (hB : Bth K cs H1 m d k st W 0 [r, vd, p]) (hF : Fr Hb m d k st W) (hrv : r ≠ vd) (hbv : Hb vd = none) (hvd : H1 vd = some (.dK (vkv st.vs W))) (hn : (st.names ++ [n]).Nodup) (n0 : 0 ≤ n) (n5 : n ≤ 5) (hco : st.coming = 0) (hla : st.lacked = []) (hsz : st.vs.length ≤ 90) (hpl : H1 p = some (.lst pl)) (hpr : p ≠ r)
      (q : ∀ H2 st' W' y6 y7, Bth K cs H2 m d k st' W' 0 [r, vd, p] → st'.names = st.names ++ [n] → st'.coming = 0 → st'.lacked = [] → Fr Hb m d k st' W' → Rw K Hb r sc ns H2 → H2 vd = some (.dK (vkv st'.vs W')) → Stp (r :: vd :: (st.foot m d k ++ own W st.names)) H1 H2 → D.nx [some (.ref sc), some (.ref r), some (.int soft), some (.ref m), some (.ref vd), some (.int n), y6, y7, x8, x9, x10, x11, x12, none] H2), t D [some (.ref sc), some (.ref r), some (.int soft), some (.ref m), some (.ref vd), some (.int n), x6, x7, x8, x9, x10, x11, x12, none] H1 := by
  have nd := sc_law.nd
  have hu := hu_of hr
  have r1 := hr.mono (show 1 ≤ 8 by decide)
  have r2 := hr.mono (show 2 ≤ 8 by decide)
  have r3 := hr.mono (show 3 ≤ 8 by decide)
  have r4 := hr.mono (show 4 ≤ 8 by decide)
  have r6 := hr.mono (show 6 ≤ 8 by decide)
  have r8 := hr.mono (show 8 ≤ 8 by decide)
  obtain ⟨t3, h3, q3⟩ := t1b_ok B G (outer := outer) (H := H) (E := E) hr
  obtain ⟨t4, h4, q4⟩ := t1c_ok B G (outer := outer) (H := H) (E := E) hr
  refine ⟨_, (pss_cons (ps_par (i := 6) (j := 7) (by rfl) nd rfl rfl (by decide) rfl rfl (pa_cons (p_call G.pace r2 (pa_cons (pv 1) pa_nil)) (pa_cons (p_call G.taken r1 (pa_cons (pv 1) (pa_cons pe_int pa_nil))) pa_nil)) (by rfl))
      (pss_cons (ps_expr (p_meth G.add r6 (pv 3) (pa_cons (pv 5) (pa_cons (pv 6) (pa_cons (pv 7) (pa_cons pe_int pa_nil))))))
      (pss_cons (ps_dput hu (pv 4) (pv 5) (pe_disp (pps_cons pe_str (pv 6) (pps_cons pe_str (pv 7) (pps_cons pe_str pe_dnewK (pps_cons pe_str pe_non pps_nil)))) (by rfl) (by rfl) (by simp) (by decide)) (by rfl))
      (pss_cons h3
      (pss_one h4))))), ?_⟩
  intro D Hb H1 sc r m d k vd p ns st W n pl x6 x7 x8 x9 x10 x11 x12 soft hb hw hB hF hrv hbv hvd hn n0 n5 hco hla hsz hpl hpr q
  walk_at "rd"
  refine ⟨r, sc, ns, rfl, hw.1, fun pc H2 pn pb hpc pn0 pn1 pb0 pb1 hR2 s2 hpc2 => ?_⟩
  walk_at "rd"
  refine ⟨r, sc, ns, 9, rfl, hR2, by decide, fun wt H3 wt0 wt1 hR3 s3 => ?_⟩
  have hw3 := (hw.go hR2 s2).go hR3 s3
  have s13 : Stp [r] H1 H3 := (s2.trans s3).sub (by simp)
  have hB3 := hB.stX s13 (by simp)
  have hv3 := s13.keep _ _ hvd (by simpa using hrv.symm)
  have hpc3 := s3.tup _ _ hpc2
  obtain ⟨dx, hma⟩ := id hB3.mix.ob
  have hnn : n ∉ st.vs.map (·.1) := fun z => by
    have := (List.nodup_append.mp hn).2.2 n z n (by simp)
    exact this rfl
  refine ⟨dx, _, hma, by walk_at "rd", m, d, k, pc, st, n, pn, pb, wt, 64, rfl, hB3.mix, hnn, n0, n5, hpc3, ⟨pn0, pn1⟩, ⟨pb0, pb1⟩, ⟨by omega, by omega⟩, by decide, by omega, fun A H4 hA hM4 s4 => ?_⟩
  rw [show st.coming + wt = wt by omega] at hM4
  have hv4 := s4.keep _ _ hv3 (by simpa using fun z : vd = d => (hB3.xa vd (by simp)).1 (by rw [z]; simp [MixS.foot]))
  have hpc4 := s4.tup _ _ hpc3
  have hdb : Hb d = none := hF.ft d (by simp [MixS.foot])
  have hw4 := hw3.mv hb s4 (by simpa using hdb)
  intro D1 hD1
  have sD := Stp.new (o := .dK []) hD1
  have eD : upd H4 D1 (.dK []) D1 = some (.dK []) := upd_same
  have hM5 := hM4.st0 sD
  have hv5 := sD.keep _ _ hv4 (by simp)
  have hpc5 := sD.tup _ _ hpc4
  have hw5 := hw4.st0 hb sD
  generalize upd H4 D1 (.dK []) = H5 at *
  refine ⟨_, rfl, _, rfl, fun C1 hC1 => ⟨?_, [(kS "pace", V.ref pc), (kS "begin", V.int wt), (kS "came", V.ref C1), (kS "many", V.non)], rfl, (by show 4 ≤ 15; decide), ?_⟩⟩
  · exact (Stp.new hC1).keep _ _ eD (by simp)
  have sC := Stp.new (o := .dK []) hC1
  have eC : upd H5 C1 (.dK []) C1 = some (.dK []) := upd_same
  have eD6 := sC.keep _ _ eD (by simp)
  have hDC : D1 ≠ C1 := fun z => by rw [z, hC1] at eD; cases eD
  generalize upd H5 C1 (.dK []) = H6 at *
  have sK := Stp.put (o := .dK (mergeK [] [(kS "pace", V.ref pc), (kS "begin", V.int wt), (kS "came", V.ref C1), (kS "many", V.non)])) eD6 (fun xs z => nomatch z)
  have eK : upd H6 D1 (.dK (mergeK [] [(kS "pace", V.ref pc), (kS "begin", V.int wt), (kS "came", V.ref C1), (kS "many", V.non)])) D1 = some (.dK (mergeK [] [(kS "pace", V.ref pc), (kS "begin", V.int wt), (kS "came", V.ref C1), (kS "many", V.non)])) := upd_same
  have eC7 := sK.keep _ _ eC (by simpa using hDC.symm)
  have s67 : Stp [D1] H5 _ := (sC.trans sK).sub (by simp)
  have hDv : D1 ≠ vd := fun z => by rw [z, hv4] at hD1; cases hD1
  have hv7 := s67.keep _ _ hv5 (by simpa using hDv.symm)
  have hpc7 := s67.tup _ _ hpc5
  have hM7 := hM5.st s67 (fun b hb z => hM4.some D1 (List.mem_singleton.mp z ▸ hb) hD1)
  have hbD : Hb D1 = none := hw4.fr hD1
  have hw7 := hw5.mv hb s67 (by simpa using hbD)
  have hbC : Hb C1 = none := hw5.fr hC1
  generalize upd H6 D1 _ = H7 at *
  show ∃ x, DPut H7 vd (.int n) (.ref D1) x ∧ _
  refine ⟨_, DPut.k (k := (Sum.inl n : Key)) hv7 ?_, ?_⟩
  · unfold vkv
    rw [List.length_map]
    exact Nat.lt_of_le_of_lt hsz (by decide)
  have eP : putK (vkv st.vs W) (Sum.inl n : Key) (V.ref D1) = vkv (st.vs ++ [(n, A, VoiceS.new pn pb wt 64)]) (W.put n (D1, C1)) := vkv_put (p := (D1, C1)) st.vs W hnn
  have sP := Stp.put (o := .dK (putK (vkv st.vs W) (Sum.inl n : Key) (V.ref D1))) hv7 (fun xs z => nomatch z)
  have e8 : upd H7 vd (.dK (putK (vkv st.vs W) (Sum.inl n : Key) (V.ref D1))) vd = some (.dK (putK (vkv st.vs W) (Sum.inl n : Key) (V.ref D1))) := upd_same
  rw [eP] at e8 sP ⊢
  have eC8 := sP.keep _ _ eC7 (by simpa using fun z : C1 = vd => by rw [z, hv5] at hC1; cases hC1)
  have eK8 := sP.keep _ _ eK (by simpa using hDv)
  have hpc8 := sP.tup _ _ hpc7
  have hM8 := hM7.st sP (fun b hb z => by
    rw [List.mem_singleton.mp z] at hb
    rw [show MixS.foot m d k { st with vs := st.vs ++ [(n, A, VoiceS.new pn pb wt 64)] } = _ from foot_more _ _ _ _ _] at hb
    rcases List.mem_append.mp hb with h | h
    · exact (hB3.xa vd (by simp)).1 h
    · have := hA vd h
      rw [hv3] at this
      cases this)
  have hw8 := hw7.mv hb sP (by simpa using hbv)
  have hd4 : ∀ {b : Addr}, H4 b = none → b ≠ d := fun h z => hM4.some d (by simp [MixS.foot]) (z ▸ h)
  have hD3 : H3 D1 = none := s4.free hD1 (by simpa using hd4 hD1)
  have hC4 : H4 C1 = none := sD.free hC1 (by simp)
  have hC3 : H3 C1 = none := s4.free hC4 (by simpa using hd4 hC4)
  have hAf : ∀ b ∈ A.foot, b ∈ MixS.foot m d k { st with vs := st.vs ++ [(n, A, VoiceS.new pn pb wt 64)] } := fun b hb => by
    rw [foot_more]
    exact List.mem_append_right _ hb
  generalize upd H7 vd (.dK (vkv (st.vs ++ [(n, A, VoiceS.new pn pb wt 64)]) (W.put n (D1, C1)))) = H8 at *
  have s38 : Stp [d, vd] H3 H8 := (s4.trans (sD.trans (s67.trans sP))).subN fun b hb => by
    simp only [List.mem_append, List.mem_singleton, List.not_mem_nil, false_or] at hb
    rcases hb with z | z | z
    · exact .inl (by simp [z])
    · exact .inr (z ▸ hD3)
    · exact .inl (by simp [z])
  have hB8 : Bth K cs H8 m d k { st with vs := st.vs ++ [(n, A, VoiceS.new pn pb wt 64)] } (W.put n (D1, C1)) 0 [r, vd, p] := by
    refine hB3.add hnn s38 (fun b hb => ?_) hM8 hA hD3 hC3 (fun z => hM4.some D1 (hAf _ z) hD1) (fun z => hM4.some C1 (hAf _ z) hC4) hDC ⟨_, [], pc, eK8, ?_, hpc8, ?_, ?_, eC8, fun i => rfl, ?_, Nat.le_refl _, ?_⟩ (fun b hb => ?_) (new_ok ⟨pn0, pn1, pb0, pb1, (by intro p hp; cases hp), Nat.zero_le _⟩ (by decide) (by decide) rfl rfl rfl) (Nat.le_refl _) (fun n' h' => nomatch h') ⟨n0, n5⟩
    · rcases List.mem_cons.mp hb with z | z
      · exact .inl (by rw [z]; simp [MixS.foot])
      · exact .inr (by rw [List.mem_singleton.mp z]; simp)
    · rfl
    · rfl
    · rfl
    · rfl
    · exact Nat.le_trans (length_mergeK _ _) (by show 0 + 4 ≤ 20; decide)
    · rcases List.mem_cons.mp hb with z | z
      · rw [z]; exact row_there hw3.1
      rcases List.mem_cons.mp z with z | z
      · rw [z, hv3]; exact nofun
      · rw [List.mem_singleton.mp z, s13.keep _ _ hpl (by simpa using hpr)]; exact nofun
  have hnm : MixS.names { st with vs := st.vs ++ [(n, A, VoiceS.new pn pb wt 64)] } = st.names ++ [n] := by
    unfold MixS.names
    rw [List.map_append]
    rfl
  have hF8 : Fr Hb m d k { st with vs := st.vs ++ [(n, A, VoiceS.new pn pb wt 64)] } (W.put n (D1, C1)) := by
    refine ⟨fun b hb => ?_, fun b hb => ?_⟩
    · rw [foot_more] at hb
      rcases List.mem_append.mp hb with h | h
      · exact hF.ft b h
      · exact hw3.fr (hA b h)
    · obtain ⟨n', hn', z⟩ := own_or hb
      rw [hnm] at hn'
      rcases List.mem_append.mp hn' with h | h
      · have hne : n' ≠ n := fun z => hnn (z ▸ h)
        rw [show W.put n (D1, C1) n' = W n' from if_neg hne] at z
        rcases z with z | z
        · rw [z]; exact hF.ow _ (own_mem h).1
        · rw [z]; exact hF.ow _ (own_mem h).2
      · rw [List.mem_singleton.mp h, show W.put n (D1, C1) n = (D1, C1) from if_pos rfl] at z
        rcases z with z | z
        · rw [z]; exact hbD
        · rw [z]; exact hbC
  refine q3 _ Hb H8 sc r m d k vd p ns _ _ 0 (n, A, VoiceS.new pn pb wt 64) _ _ _ _ _ _ _ soft hb hw8 hB8 hF8 hrv hbv e8 (by simp) (by rw [hnm]; exact hn) rfl rfl fun H9 st9 hB9 hL9 hw9 hv9 s9 => ?_
  have hm9 : ∃ e ∈ st9.vs, e.1 = n := by
    have : n ∈ st9.names := by rw [hL9.nm, hnm]; simp
    obtain ⟨e, he, q⟩ := List.mem_map.mp this
    exact ⟨e, he, q⟩
  obtain ⟨e, he, hen⟩ := hm9
  subst hen
  refine q4 D Hb H9 sc r m d k vd p ns st9 _ 0 e _ _ _ _ _ _ _ soft hb hw9 hB9 (hF8.lk hL9) hrv hbv (by rw [vkv_names _ hL9.nm]; exact hv9) he fun H10 st10 hB10 hL10 hw10 hv10 s10 => ?_
  have hL := hL9.trans hL10
  refine q H10 st10 _ _ _ hB10 (hL.nm.trans hnm) (hL.co.trans hco) (hL.la.trans hla) (hF8.lk hL) hw10 (by rw [vkv_names _ hL10.nm]; exact hv10) ?_
  have s810 : Stp (r :: (MixS.foot m d k { st with vs := st.vs ++ [(e.1, A, VoiceS.new pn pb wt 64)] } ++ own (W.put e.1 (D1, C1)) (MixS.names { st with vs := st.vs ++ [(e.1, A, VoiceS.new pn pb wt 64)] }))) H8 H10 := (s9.trans s10).sub fun b hb => by
    rcases List.mem_append.mp hb with z | z
    · exact z
    · rw [hL9.ft, hL9.nm] at z
      exact z
  have h1n : ∀ {b : Addr}, H3 b = none → H1 b = none ∨ b = r := fun {b} h => by
    by_cases z : b = r
    · exact .inr z
    · exact .inl (s13.free h (by simpa using z))
  refine ((s13.trans (s38.trans s810)).subN fun b hb => ?_)
  have fin : ∀ {b : Addr}, H3 b = none → b ∈ r :: vd :: (st.foot m d k ++ own W st.names) ∨ H1 b = none := fun {b} h => by
    rcases h1n h with z | z
    · exact .inr z
    · exact .inl (by simp [z])
  rcases List.mem_append.mp hb with z | z
  · exact .inl (by simp [List.mem_singleton.mp z])
  rcases List.mem_append.mp z with z | z
  · rcases List.mem_cons.mp z with z | z
    · exact .inl (by rw [z]; simp [MixS.foot])
    · exact .inl (by simp [List.mem_singleton.mp z])
  rcases List.mem_cons.mp z with z | z
  · exact .inl (by simp [z])
  rcases List.mem_append.mp z with z | z
  · rw [foot_more] at z
    rcases List.mem_append.mp z with z | z
    · exact .inl (by simp [z])
    · exact fin (hA b z)
  · obtain ⟨n', hn', z⟩ := own_or z
    rw [hnm] at hn'
    rcases List.mem_append.mp hn' with h | h
    · have hne : n' ≠ e.1 := fun z => hnn (z ▸ h)
      rw [show W.put e.1 (D1, C1) n' = W n' from if_neg hne] at z
      refine .inl (List.mem_cons_of_mem _ (List.mem_cons_of_mem _ (List.mem_append_right _ ?_)))
      rcases z with z | z
      · rw [z]; exact (own_mem h).1
      · rw [z]; exact (own_mem h).2
    · rw [List.mem_singleton.mp h, show W.put e.1 (D1, C1) e.1 = (D1, C1) from if_pos rfl] at z
      rcases z with z | z
      · rw [z]; exact fin hD3
      · rw [z]; exact fin hC3
end
end Mx

namespace Mx
open PySem L2
set_option hygiene false in
local macro_rules | `(tactic| walk_at "rd") => `(tactic| try simp only [L2.start, List.map_cons, List.map_nil, List.length_cons, List.length_nil, Nat.reduceAdd, Nat.reduceSub, Nat.reduceLT, Nat.reduceLeDiff, List.replicate_succ, List.replicate_zero, List.append_nil, List.nil_append, List.cons_append, List.set_cons_zero, List.set_cons_succ, List.getElem?_cons_zero, List.getElem?_cons_succ,
  Option.some.injEq, List.cons.injEq, and_true, true_and, and_assoc, reduceCtorEq, L2.V.int.injEq, L2.V.ref.injEq, L2.V.bl.injEq, L2.V.str.injEq, L2.V.ty.injEq, L2.HO.ins.injEq, L2.HO.lst.injEq, L2.HO.tup.injEq, L2.HO.dK.injEq, exists_eq_left', exists_eq_left, exists_eq_right, exists_eq', exists_eq, exists_and_left, exists_and_right, reduceIte, Bool.false_eq_true, Bool.not_true, Bool.not_false,
  L2.tSeq, L2.tIfS, L2.tRet, L2.tRetN, L2.tNext, L2.tAsg, L2.gName, L2.tVar, L2.tC, L2.tCons, L2.tNil, L2.tCB, L2.tOp, L2.tUn, L2.tTup, L2.tLst, L2.tB, L2.tOr, L2.tAnd, L2.tNot, L2.tAndV, L2.tOrV, L2.tNotV, L2.tIf, L2.tTest, L2.tChain, L2.rI, L2.rI0, L2.rU, L2.tDrop, L2.tNever, L2.tCall, L2.tMeth, L2.tMake, L2.rGcd, L2.tFld, L2.sFld, L2.sFldAug, Mx.sFldA, Mx.sFldAugA, L2.rAdd, L2.rSub, L2.rEq, L2.rNe, L2.tDGet, L2.tDIn, L2.tDNotIn, L2.sDPut,
  Mx.isi_int_bool, Mx.isi_int_int, Mx.isi_int_tuple, Mx.isi_int_list, Mx.isi_int_str, Mx.scal_int, Mx.scal_str, Mx.scal_bl, Mx.ofString_inj, Mx.ofString_beq, Mx.lk_cons, Mx.pf_nil, Mx.pf_cons, Mx.sz1, Mx.sz2, List.lookup_nil, String.reduceEq, decide_true, decide_false, decide_eq_true_eq, Int.natAbs_natCast, L2.upd_same, L2.upd_upd, L2.cxOf, L2.gSub, L2.tPar, L2.tPar3, Mx.fsM, L2.gCons, L2.gNil, L2.tBM0, L2.tBM, L2.sDPut, L2.tDNewK, Mx.optV])
set_option hygiene false in
local macro_rules | `(tactic| walk_at "rds") => `(tactic| try simp only [L2.start, List.map_cons, List.map_nil, List.length_cons, List.length_nil, Nat.reduceAdd, Nat.reduceSub, Nat.reduceLT, Nat.reduceLeDiff, List.replicate_succ, List.replicate_zero, List.append_nil, List.nil_append, List.cons_append, List.set_cons_zero, List.set_cons_succ, List.getElem?_cons_zero, List.getElem?_cons_succ,
  Option.some.injEq, List.cons.injEq, and_true, true_and, and_assoc, reduceCtorEq, L2.V.int.injEq, L2.V.ref.injEq, L2.V.bl.injEq, L2.V.str.injEq, L2.V.ty.injEq, L2.HO.ins.injEq, L2.HO.lst.injEq, L2.HO.tup.injEq, L2.HO.dK.injEq, exists_eq_left', exists_eq_left, exists_eq_right, exists_eq', exists_eq, exists_and_left, exists_and_right, reduceIte, Bool.false_eq_true, Bool.not_true, Bool.not_false,
  L2.tSeq, L2.tIfS, L2.tRet, L2.tRetN, L2.tNext, L2.tAsg, L2.gName, L2.tVar, L2.tC, L2.tCons, L2.tNil, L2.tCB, L2.tOp, L2.tUn, L2.tTup, L2.tLst, L2.tB, L2.tOr, L2.tAnd, L2.tNot, L2.tAndV, L2.tOrV, L2.tNotV, L2.tIf, L2.tTest, L2.tChain, L2.rI, L2.rI0, L2.rU, L2.tDrop, L2.tNever, L2.tCall, L2.tMeth, L2.tMake, L2.rGcd, L2.tFld, L2.sFld, L2.sFldAug, Mx.sFldA, Mx.sFldAugA, L2.rAdd, L2.rSub, L2.rEq, L2.rNe, L2.tDGet, L2.tDIn, L2.tDNotIn, L2.sDPut,
  Mx.isi_int_bool, Mx.isi_int_int, Mx.isi_int_tuple, Mx.isi_int_list, Mx.isi_int_str, Mx.scal_int, Mx.scal_str, Mx.scal_bl, Mx.ofString_inj, Mx.ofString_beq, Mx.lk_cons, Mx.pf_nil, Mx.pf_cons, Mx.sz1, Mx.sz2, List.lookup_nil, String.reduceEq, decide_true, decide_false, decide_eq_true_eq, Int.natAbs_natCast, L2.upd_same, L2.upd_upd, L2.cxOf, L2.gSub, L2.tPar, L2.tPar3, Mx.fsM, L2.gCons, L2.gNil, L2.tBM0, L2.tBM, L2.sDPut, L2.tDNewK, Mx.optV, *])

section
variable {P : Program} {w : World} {K : PySem.W.Frag} {mg : Str → Option Value} {base : Heap} {cs : Cs} {C : Addr}
theorem ok_law (B : Blt mg) (G : G06 P w K mg base cs) {f : Addr} {fd : FuncData} (F : Fun K "law" "law" s_law f fd) : FnOk P w K mg base CX0 9 f fd ["_law_script"] (sp_law K) := by
  refine F.ok sc_law (fun vs H Q E h => ?_) (fun cdv A outer s H vs Q E hr h => ?_)
  · obtain ⟨a, ns, rfl, _⟩ := h
    rfl
  · obtain ⟨sc, ns, rfl, hS, hlen, kk⟩ := h
    have nd := sc_law.nd
    have hu := hu_of hr
    have r1 := hr.mono (show 1 ≤ 8 by decide)
    have r2 := hr.mono (show 2 ≤ 8 by decide)
    have r3 := hr.mono (show 3 ≤ 8 by decide)
    have r4 := hr.mono (show 4 ≤ 8 by decide)
    have r6 := hr.mono (show 6 ≤ 8 by decide)
    have r8 := hr.mono (show 8 ≤ 8 by decide)
    obtain ⟨tA, h1, q1⟩ := t1_ok B G (outer := outer) (H := H) (E := E) hr
    obtain ⟨tB2, h2, q2⟩ := t2_ok B G (outer := outer) (H := H) (E := E) hr
    refine ⟨_, (pss_cons (ps_set (i := 1) nd rfl (.inr rfl) (pe_lst (pa_cons (pv 0) (pa_cons pe_int (pa_cons pe_int pa_nil)))))
      (pss_cons (ps_set (i := 2) nd rfl (.inl rfl) (pe_op op_add pe_int (p_call G.taken r1 (pa_cons (pv 1) (pa_cons pe_int pa_nil)))))
      (pss_cons (ps_set (i := 3) nd rfl (.inl rfl) (p_make G.mixer r4 (pa_cons (pv 2) pa_nil)))
      (pss_cons (ps_set (i := 4) nd rfl (.inr rfl) pe_dnewK)
      (pss_cons (ps_for PassesOwn.never rfl (pi_list (pe_callB (cr_sortedSet rfl) (by rfl) B.sorted PyProof.Rows.boot_sorted (pa_cons (pe_callTy (cr_setLi rfl) (by rfl) G.set PyProof.Rows.boot_set (pa_cons (pe_lc (own := [("_law_k", 13)]) (te := tCall (sp_taken K) [] E0 (tCons (tVar 1) (tCons (tC (.int 6)) tNil))) rfl nd (pi_range1 (by rfl) B.range (pa_cons pe_int pa_nil)) (blkOk_by (N := N06) (sc := defScope s_law) (by decide +kernel)) (fun _ _ _ _ _ => pg_name (i := 13) nd rfl (.inl rfl)) (fun _ _ _ _ _ => pts_nil) (fun _ _ _ _ _ => (p_call G.taken r1 (pa_cons (pv 1) (pa_cons pe_int pa_nil))))) pa_nil)) pa_nil))) (pg_name (i := 5) nd rfl (.inl rfl)) h1)
      (pss_cons (ps_set (i := 8) nd rfl (.inl rfl) (pe_lst pa_nil))
      (pss_cons (ps_for PassesOwn.never rfl (pi_range1 (by rfl) B.range (pa_cons (p_call G.taken r1 (pa_cons (pv 1) (pa_cons pe_int pa_nil))) pa_nil)) (pg_name (i := 9) nd rfl (.inr rfl)) h2)
      (pss_one (ps_ret pe_bl))))))))), ?_⟩
    refine ⟨_, rfl, by show 3 ≤ sizeLine; decide, fun r hr0 => ?_⟩
    have hsr : sc ≠ r ∨ ∀ H', SqL K H' sc (ns.map V.int) := by
      rcases hS with (q | ⟨o, q⟩) | q
      · exact .inl (ne_of_none q hr0)
      · exact .inl (ne_of_none q hr0)
      · exact .inr fun H' => .inr q
    have hb : RowAt K (upd H r (.lst [.ref sc, .int 0, .int 0])) r sc ns := ⟨0, 0, by decide, by decide, by decide, upd_same, seq_st hS (Stp.new hr0) (by simp), hsr⟩
    generalize upd H r (.lst [.ref sc, .int 0, .int 0]) = Hb at *
    walk_at "rd"
    refine ⟨r, sc, ns, 8, rfl, hb, by decide, fun sf H1 sf0 sf1 hR1 s1 => ?_⟩
    have hw1 : Rw K Hb r sc ns H1 := ⟨hR1, s1⟩
    walk_at "rd"
    intro m dx hm0 hdx0 hne0
    have s2 := stp_made (C := cs.M) hm0 hdx0
    have e2 : upd (upd H1 dx (.own m)) m (.ins cs.M dx []) m = some (.ins cs.M dx []) := upd_same
    generalize upd (upd H1 dx (.own m)) m (.ins cs.M dx []) = H2 at *
    refine ⟨m, dx, 1 + sf, rfl, e2, by omega, by omega, fun d k H3 hd0 hk0 hM3 s3 => ⟨rfl, ?_⟩⟩
    have hd1 : H1 d = none := s2.free hd0 (by simp)
    have hk1 : H1 k = none := s2.free hk0 (by simp)
    have s13 : Stp [] H1 H3 := (s2.trans s3).subN fun b hb => .inr (by
      have : b = m := by simpa using hb
      rw [this]; exact hm0)
    have hw3 := hw1.st0 hb s13
    walk_at "rd"
    intro vd hvd0
    have s4 := Stp.new (o := .dK []) hvd0
    have e4 : upd H3 vd (.dK []) vd = some (.dK []) := upd_same
    have hw4 := hw3.st0 hb s4
    have hM4 := hM3.st0 s4
    have hvf : vd ∉ MixS.foot m d k ⟨1 + sf, 0, [], []⟩ := fun z => hM3.some vd z hvd0
    have hrf : r ∉ MixS.foot m d k ⟨1 + sf, 0, [], []⟩ := by
      intro z
      have hh := row_there hb
      unfold MixS.foot at z
      rcases List.mem_cons.mp z with e | z
      · exact hh (hw1.fr (e ▸ hm0))
      rcases List.mem_cons.mp z with e | z
      · exact hh (hw1.fr (e ▸ hd1))
      rcases List.mem_cons.mp z with e | z
      · exact hh (hw1.fr (e ▸ hk1))
      · cases z
    have hrv : r ≠ vd := (row_ne hw3.1 hvd0).symm
    have hbv : Hb vd = none := hw3.fr hvd0
    generalize upd H3 vd (.dK []) = H4 at *
    have hB4 : Bth K cs H4 m d k ⟨1 + sf, 0, [], []⟩ (fun _ => (0, 0)) 0 [r, vd] := by
      refine ⟨hM4, by simp, by simp, fun b hb => ⟨?_, by simp⟩, by simp, by simp, by show 1 ≤ 1 + sf ∧ 1 + sf ≤ 16; omega⟩
      rcases List.mem_cons.mp hb with z | z
      · rw [z]; exact hrf
      · rw [List.mem_singleton.mp z]; exact hvf
    have hF4 : Fr Hb m d k ⟨1 + sf, 0, [], []⟩ (fun _ => (0, 0)) := by
      refine ⟨fun b hb => ?_, fun b hb => by cases hb⟩
      unfold MixS.foot at hb
      rcases List.mem_cons.mp hb with e | hb
      · exact hw1.fr (e ▸ hm0)
      rcases List.mem_cons.mp hb with e | hb
      · exact hw1.fr (e ▸ hd1)
      rcases List.mem_cons.mp hb with e | hb
      · exact hw1.fr (e ▸ hk1)
      · cases hb
    refine for_names (fun D0 xs H5 => H4 D0 = none ∧ RowAt K H5 r sc ns ∧ Stp [r] H4 H5 ∧ H5 D0 = some (.lst (xs.map V.int)) ∧ xs.length = 3 ∧ ∀ v ∈ xs, 0 ≤ v ∧ v ≤ 5) (fun R hR => ?_) fun D0 xs H5 hP => ?_
    · exact lc_rowI 0 5 hw4.1 (n := 3) (by decide) (fun R h => h) (fun x Hx hRx Q' qq => ⟨_, rfl, r, sc, ns, 6, rfl, hRx, by decide, fun v Hy v0 v1 hRy sy => qq v Hy v0 (by omega) hRy sy⟩) fun D0 H5 xs hD0 hR5 s5 hl5 hxl hxs => hR D0 H5 xs ⟨hD0, hR5, s5, hl5, hxl, hxs⟩
    obtain ⟨hD0, hR5, s5, hl5, hxl, hxs⟩ := hP
    have hw5 := hw4.go hR5 s5
    have hB5 := hB4.stX s5 (by simp)
    have hv5 := s5.keep _ _ e4 (by simpa using hrv.symm)
    refine ⟨hl5, by omega, fun p nms H7 hpw hmem hcl s57 hp e7 => ?_⟩
    have hw7 := hw5.st0 hb s57
    have hB7 := hB5.st0 s57
    have hv7 := s57.keep _ _ hv5 (by simp)
    have hpb : Hb p = none := hw5.fr hp
    have hpr : p ≠ r := row_ne hw5.1 hp
    have hpv : p ≠ vd := fun z => by rw [z, hv5] at hp; cases hp
    have hn3 : nms.length ≤ 3 := by omega
    have hn05 : ∀ n ∈ nms, 0 ≤ n ∧ n ≤ 5 := fun n hn => hxs n ((hmem n).mp hn)
    have hnd : nms.Nodup := hpw.imp fun h => by omega
    have hB7p : Bth K cs H7 m d k ⟨1 + sf, 0, [], []⟩ (fun _ => (0, 0)) 0 [r, vd, p] := ⟨hB7.mix, by simp, by simp, fun b hb => ⟨fun z => by
      rcases List.mem_cons.mp hb with e | hb
      · exact (hB7.xa b (by simp [e])).1 z
      rcases List.mem_cons.mp hb with e | hb
      · exact (hB7.xa b (by simp [e])).1 z
      · rw [List.mem_singleton.mp hb] at z
        exact hB5.mix.some p z hp, by simp⟩, by simp, by simp, hB7.so⟩
    refine for_list (K := K) (a := p) (xs := nms.map V.int) (fun i σ H' => ∃ st W x5 x6 x7 x8 x9 x10 x11 x12, σ = [some (.ref sc), some (.ref r), some (.int (1 + sf)), some (.ref m), some (.ref vd), x5, x6, x7, x8, x9, x10, x11, x12, none] ∧ Bth K cs H' m d k st W 0 [r, vd, p] ∧ st.names = nms.take i ∧ st.coming = 0 ∧ st.lacked = [] ∧ Fr Hb m d k st W ∧ Rw K Hb r sc ns H' ∧ H' vd = some (.dK (vkv st.vs W)) ∧ H' p = some (.lst (nms.map V.int)) )
      ⟨_, _, _, _, _, _, _, _, _, _, rfl, hB7p, by rw [List.take_zero]; rfl, rfl, rfl, hF4, hw7, hv7, e7⟩ (fun i σ H' _ h => ?_) (fun i x σ H' hi h => ?_) (fun σ H' h => ?_)
    · obtain ⟨_, _, _, _, _, _, _, _, _, _, _, _, _, _, _, _, _, _, h⟩ := h
      exact .inl (.inl h)
    · obtain ⟨st, W, x5, x6, x7, x8, x9, x10, x11, x12, rfl, hB', hnm, hco, hla, hF', hw', hv', hp'⟩ := h
      rw [List.getElem?_map] at hi
      cases en : nms[i]? with
      | none => rw [en] at hi; cases hi
      | some n =>
        rw [en] at hi
        obtain rfl : V.int n = x := Option.some.inj hi
        have htk : nms.take (i + 1) = st.names ++ [n] := by rw [hnm, List.take_add_one, en]; rfl
        have hnn : (st.names ++ [n]).Nodup := by
          rw [← htk]
          exact hnd.sublist (List.take_sublist _ _)
        have hb05 := hn05 n (List.mem_of_getElem? en)
        have hsl : st.vs.length ≤ 90 := by
          have := congrArg List.length hnm
          unfold MixS.names at this
          rw [List.length_map, List.length_take] at this
          omega
        refine q1 _ Hb H' sc r m d k vd p ns st W n _ _ _ _ _ _ _ _ (1 + sf) hb hw' hB' hF' hrv hbv hv' hnn hb05.1 hb05.2 hco hla hsl hp' hpr fun H2 st2 W2 y6 y7 hB2 hn2 hc2 hl2 hF2 hw2 hv2 s2' => ?_
        have hpX : p ∉ r :: vd :: (st.foot m d k ++ own W st.names) := fun z => by
          rcases List.mem_cons.mp z with z | z
          · exact hpr z
          rcases List.mem_cons.mp z with z | z
          · exact hpv z
          rcases List.mem_append.mp z with z | z
          · exact (hB'.xo (by simp : p ∈ [r, vd, p])).1 z
          · exact (hB'.xo (by simp : p ∈ [r, vd, p])).2 z
        exact ⟨st2, W2, _, _, _, _, _, _, _, _, rfl, hB2, by rw [hn2, htk], hc2, hl2, hF2, hw2, hv2, s2'.keep _ _ hp' hpX⟩
    · obtain ⟨st, W, x5, x6, x7, x8, x9, x10, x11, x12, rfl, hB', hnm, hco, hla, hF', hw', hv', hp'⟩ := h
      rw [show nms.take (nms.map V.int).length = nms from List.take_of_length_le (by rw [List.length_map]; exact Nat.le_refl _)] at hnm
      walk_at "rd"
      refine ⟨Nat.zero_le _, fun du hdu => ?_⟩
      have sU := Stp.new (o := .lst []) hdu
      have eU : upd H' du (.lst []) du = some (.lst []) := upd_same
      have hwU := hw'.st0 hb sU
      have hvU := sU.keep _ _ hv' (by simp)
      have hbd : Hb du = none := hw'.fr hdu
      have hrd : r ≠ du := (row_ne hw'.1 hdu).symm
      have hvu : vd ≠ du := fun z => by rw [← z, hv'] at hdu; cases hdu
      have hBU : Bth K cs (upd H' du (.lst [])) m d k st W 0 [r, vd, du] := by
        have h0 := hB'.st0 sU
        refine ⟨h0.mix, h0.ov, h0.ap, fun b hb => ?_, h0.dj, h0.ok, h0.so⟩
        rcases List.mem_cons.mp hb with e | hb
        · exact h0.xa b (by simp [e])
        rcases List.mem_cons.mp hb with e | hb
        · exact h0.xa b (by simp [e])
        · rw [List.mem_singleton.mp hb]
          exact ⟨fun z => hB'.mix.some du z hdu, fun e he => ⟨fun z => (hB'.ov e he).ex.1 (z ▸ hdu), fun z => (hB'.ov e he).ex.2 (z ▸ hdu)⟩⟩
      generalize upd H' du (.lst []) = HU at *
      refine ⟨_, rfl, r, sc, ns, 61, rfl, hwU.1, by decide, fun cn HV cn0 cn1 hRV sV => ?_⟩
      have hwV := hwU.go hRV sV
      have hBV := hBU.stX sV (by simp)
      have hvV := sV.keep _ _ hvU (by simpa using hrv.symm)
      have hdV := sV.keep _ _ eU (by simpa using hrd.symm)
      have hn6 : st.vs.length ≤ 6 := by
        have := congrArg List.length hnm
        unfold MixS.names at this
        rw [List.length_map] at this
        omega
      refine ⟨cn, rfl, by omega, by omega, ?_⟩
      refine for_range (lo := 0) (n := cn.toNat) (fun i σ H' => ∃ st' ls x5 x6 x7 x9 x10 x11 x12, σ = [some (.ref sc), some (.ref r), some (.int (1 + sf)), some (.ref m), some (.ref vd), x5, x6, x7, some (.ref du), x9, x10, x11, x12, none] ∧ Bth K cs H' m d k st' W (120 * i) [r, vd, du] ∧ Rw K Hb r sc ns H' ∧ Fr Hb m d k st' W ∧ H' vd = some (.dK (vkv st'.vs W)) ∧ H' du = some (.lst ls) ∧ Paired (IsPair H') ls st'.lacked ∧ st'.names = nms ∧ st'.coming = (i : Int) ∧ st'.lacked.length ≤ 6 * i)
        ⟨st, [], _, _, _, _, _, _, _, rfl, hBV, hwV, hF', hvV, hdV, by rw [hla]; exact .nil, hnm, hco, by rw [hla]; exact Nat.le_refl _⟩ (fun i σ H' hi h => ?_) (fun σ H' h => kk H')
      obtain ⟨st', ls, x5, x6, x7, x9, x10, x11, x12, rfl, hB1, hw1', hF1, hv1, hd1', hp1, hn1, hc1, hl1⟩ := h
      have hi60 : i ≤ 60 := by omega
      have hn6' : st'.vs.length ≤ 6 := by
        have := congrArg List.length hn1
        unfold MixS.names at this
        rw [List.length_map] at this
        omega
      have ei : (0 + (i : Int)) = st'.coming := by omega
      rw [ei]
      refine q2 _ Hb H' sc r m d k vd du ns st' W (120 * i) ls _ _ _ _ _ _ (1 + sf) hb hw1' hB1 hF1 (by omega) hrv hrd hvu hbv hbd hv1 (by rw [hn1]; exact hpw) hn6' hd1' hp1 (by omega) fun H2 st2 ls2 y5 y10 y11 y12 hB2 hw2 hF2 hv2 hd2 hp2 hn2 hc2 hl2 => ?_
      exact ⟨st2, ls2, _, _, _, _, _, _, _, rfl, hB2.up (by omega), hw2, hF2, hv2, hd2, hp2, hn2.trans hn1, by rw [hc2, hc1]; omega, by omega⟩
end
end Mx

namespace Mx
open PySem L2
theorem all_mk {l : PySem.W.OpenLaw} {w : World} {K : PySem.W.Frag} {h : Heap} {mg : Str → Option Value} {fa cs_L cs_D cs_V cs_M f_is_whole f_check_soft f_check_name f_check_pace f_check_wait f_check_loudness f_ratio f_plus f_times f_Line_init f_Line_room f_Line_begun f_spot f_wanted f_Line_wants f_Line_over f_Line_lacks f_Line_ready f_Line_value f_Line_take f_Line_close f_Loudness_init f_Loudness_lead_on f_Voice_fall f_Voice_rise f_Voice_begin_fall f_Voice_sound f_Voice_init f_Voice_give f_Mixer_init f_Mixer_voice_of f_Mixer_add f_Mixer_parcel f_Mixer_end f_Mixer_beat f_Mixer_missed f_Mixer_hush f_law_taken f_law_number f_law_pace f_law_places f_law_is_over f_law_lacks f_law_alike f_law aN : Addr} (X : K.In h) (G : h.Ns mainGlobals mg) (hfa : mg "law" = some (.ref fa))
    {od_is_whole an_is_whole od_check_soft an_check_soft od_check_name an_check_name od_check_pace an_check_pace od_check_wait an_check_wait od_check_loudness an_check_loudness od_ratio an_ratio od_plus an_plus od_times an_times od_Line_init an_Line_init od_Line_room an_Line_room od_Line_begun an_Line_begun od_spot an_spot od_wanted an_wanted od_Line_wants an_Line_wants od_Line_over an_Line_over od_Line_lacks an_Line_lacks od_Line_ready an_Line_ready od_Line_value an_Line_value od_Line_take an_Line_take od_Line_close an_Line_close od_Loudness_init an_Loudness_init od_Loudness_lead_on an_Loudness_lead_on od_Voice_fall an_Voice_fall od_Voice_rise an_Voice_rise od_Voice_begin_fall an_Voice_begin_fall od_Voice_sound an_Voice_sound od_Voice_init an_Voice_init od_Voice_give an_Voice_give od_Mixer_init an_Mixer_init od_Mixer_voice_of an_Mixer_voice_of od_Mixer_add an_Mixer_add od_Mixer_parcel an_Mixer_parcel od_Mixer_end an_Mixer_end od_Mixer_beat an_Mixer_beat od_Mixer_missed an_Mixer_missed od_Mixer_hush an_Mixer_hush od_law_taken an_law_taken od_law_number an_law_number od_law_pace an_law_pace od_law_places an_law_places od_law_is_over an_law_is_over od_law_lacks an_law_lacks od_law_alike an_law_alike od_law an_law odN : Option Addr} {sl_is_whole sl_check_soft sl_check_name sl_check_pace sl_check_wait sl_check_loudness sl_ratio sl_plus sl_times sl_Line_init sl_Line_room sl_Line_begun sl_spot sl_wanted sl_Line_wants sl_Line_over sl_Line_lacks sl_Line_ready sl_Line_value sl_Line_take sl_Line_close sl_Loudness_init sl_Loudness_lead_on sl_Voice_fall sl_Voice_rise sl_Voice_begin_fall sl_Voice_sound sl_Voice_init sl_Voice_give sl_Mixer_init sl_Mixer_voice_of sl_Mixer_add sl_Mixer_parcel sl_Mixer_end sl_Mixer_beat sl_Mixer_missed sl_Mixer_hush sl_law_taken sl_law_number sl_law_pace sl_law_places sl_law_is_over sl_law_lacks sl_law_alike sl_law slN : Array (Option Value)}
    {oc_is_whole kV_is_whole dc_is_whole pm_is_whole cd_is_whole ct_is_whole oc_check_soft kV_check_soft dc_check_soft pm_check_soft cd_check_soft ct_check_soft oc_check_name kV_check_name dc_check_name pm_check_name cd_check_name ct_check_name oc_check_pace kV_check_pace dc_check_pace pm_check_pace cd_check_pace ct_check_pace oc_check_wait kV_check_wait dc_check_wait pm_check_wait cd_check_wait ct_check_wait oc_check_loudness kV_check_loudness dc_check_loudness pm_check_loudness cd_check_loudness ct_check_loudness oc_ratio kV_ratio dc_ratio pm_ratio cd_ratio ct_ratio oc_plus kV_plus dc_plus pm_plus cd_plus ct_plus oc_times kV_times dc_times pm_times cd_times ct_times oc_Line_init kV_Line_init dc_Line_init pm_Line_init cd_Line_init ct_Line_init oc_Line_room kV_Line_room dc_Line_room pm_Line_room cd_Line_room ct_Line_room oc_Line_begun kV_Line_begun dc_Line_begun pm_Line_begun cd_Line_begun ct_Line_begun oc_spot kV_spot dc_spot pm_spot cd_spot ct_spot oc_wanted kV_wanted dc_wanted pm_wanted cd_wanted ct_wanted oc_Line_wants kV_Line_wants dc_Line_wants pm_Line_wants cd_Line_wants ct_Line_wants oc_Line_over kV_Line_over dc_Line_over pm_Line_over cd_Line_over ct_Line_over oc_Line_lacks kV_Line_lacks dc_Line_lacks pm_Line_lacks cd_Line_lacks ct_Line_lacks oc_Line_ready kV_Line_ready dc_Line_ready pm_Line_ready cd_Line_ready ct_Line_ready oc_Line_value kV_Line_value dc_Line_value pm_Line_value cd_Line_value ct_Line_value oc_Line_take kV_Line_take dc_Line_take pm_Line_take cd_Line_take ct_Line_take oc_Line_close kV_Line_close dc_Line_close pm_Line_close cd_Line_close ct_Line_close oc_Loudness_init kV_Loudness_init dc_Loudness_init pm_Loudness_init cd_Loudness_init ct_Loudness_init oc_Loudness_lead_on kV_Loudness_lead_on dc_Loudness_lead_on pm_Loudness_lead_on cd_Loudness_lead_on ct_Loudness_lead_on oc_Voice_fall kV_Voice_fall dc_Voice_fall pm_Voice_fall cd_Voice_fall ct_Voice_fall oc_Voice_rise kV_Voice_rise dc_Voice_rise pm_Voice_rise cd_Voice_rise ct_Voice_rise oc_Voice_begin_fall kV_Voice_begin_fall dc_Voice_begin_fall pm_Voice_begin_fall cd_Voice_begin_fall ct_Voice_begin_fall oc_Voice_sound kV_Voice_sound dc_Voice_sound pm_Voice_sound cd_Voice_sound ct_Voice_sound oc_Voice_init kV_Voice_init dc_Voice_init pm_Voice_init cd_Voice_init ct_Voice_init oc_Voice_give kV_Voice_give dc_Voice_give pm_Voice_give cd_Voice_give ct_Voice_give oc_Mixer_init kV_Mixer_init dc_Mixer_init pm_Mixer_init cd_Mixer_init ct_Mixer_init oc_Mixer_voice_of kV_Mixer_voice_of dc_Mixer_voice_of pm_Mixer_voice_of cd_Mixer_voice_of ct_Mixer_voice_of oc_Mixer_add kV_Mixer_add dc_Mixer_add pm_Mixer_add cd_Mixer_add ct_Mixer_add oc_Mixer_parcel kV_Mixer_parcel dc_Mixer_parcel pm_Mixer_parcel cd_Mixer_parcel ct_Mixer_parcel oc_Mixer_end kV_Mixer_end dc_Mixer_end pm_Mixer_end cd_Mixer_end ct_Mixer_end oc_Mixer_beat kV_Mixer_beat dc_Mixer_beat pm_Mixer_beat cd_Mixer_beat ct_Mixer_beat oc_Mixer_missed kV_Mixer_missed dc_Mixer_missed pm_Mixer_missed cd_Mixer_missed ct_Mixer_missed oc_Mixer_hush kV_Mixer_hush dc_Mixer_hush pm_Mixer_hush cd_Mixer_hush ct_Mixer_hush oc_law_taken kV_law_taken dc_law_taken pm_law_taken cd_law_taken ct_law_taken oc_law_number kV_law_number dc_law_number pm_law_number cd_law_number ct_law_number oc_law_pace kV_law_pace dc_law_pace pm_law_pace cd_law_pace ct_law_pace oc_law_places kV_law_places dc_law_places pm_law_places cd_law_places ct_law_places oc_law_is_over kV_law_is_over dc_law_is_over pm_law_is_over cd_law_is_over ct_law_is_over oc_law_lacks kV_law_lacks dc_law_lacks pm_law_lacks cd_law_lacks ct_law_lacks oc_law_alike kV_law_alike dc_law_alike pm_law_alike cd_law_alike ct_law_alike oc_law kV_law dc_law pm_law cd_law ct_law : Value} {t_MOST t_FULL t_HUSHED t_RISING t_ON t_FALLING tN0 tN1 : Tok} {nN : Nat}
    (aC_L : PySem.W.nsIn K mainGlobals "Line" = some (some (.ref cs_L)))
    (pg_L : PySem.W.plainGet K cs_L Str.empty = true)
    (hd_L : PySem.W.hasDictIn K cs_L = true)
    (po_L : PySem.W.plainOver K cs_L = true)
    (sa_L : PySem.W.findIn K (.ref cs_L) "__setattr__" = some (some (.builtin "object.__setattr__")))
    (mk_L : PySem.W.makesIn K cs_L = true)
    (kc_L : PySem.W.keepIn K (.ref cs_L) = true)
    (nL1 : PySem.W.findIn K (.ref cs_L) "pace" = some none)
    (nL2 : PySem.W.findIn K (.ref cs_L) "begin" = some none)
    (nL3 : PySem.W.findIn K (.ref cs_L) "came" = some none)
    (nL4 : PySem.W.findIn K (.ref cs_L) "reach" = some none)
    (nL5 : PySem.W.findIn K (.ref cs_L) "many" = some none)
    (aC_D : PySem.W.nsIn K mainGlobals "Loudness" = some (some (.ref cs_D)))
    (pg_D : PySem.W.plainGet K cs_D Str.empty = true)
    (hd_D : PySem.W.hasDictIn K cs_D = true)
    (po_D : PySem.W.plainOver K cs_D = true)
    (sa_D : PySem.W.findIn K (.ref cs_D) "__setattr__" = some (some (.builtin "object.__setattr__")))
    (mk_D : PySem.W.makesIn K cs_D = true)
    (kc_D : PySem.W.keepIn K (.ref cs_D) = true)
    (nD1 : PySem.W.findIn K (.ref cs_D) "level" = some none)
    (nD2 : PySem.W.findIn K (.ref cs_D) "stride" = some none)
    (nD3 : PySem.W.findIn K (.ref cs_D) "left" = some none)
    (aC_V : PySem.W.nsIn K mainGlobals "Voice" = some (some (.ref cs_V)))
    (pg_V : PySem.W.plainGet K cs_V Str.empty = true)
    (hd_V : PySem.W.hasDictIn K cs_V = true)
    (po_V : PySem.W.plainOver K cs_V = true)
    (sa_V : PySem.W.findIn K (.ref cs_V) "__setattr__" = some (some (.builtin "object.__setattr__")))
    (mk_V : PySem.W.makesIn K cs_V = true)
    (kc_V : PySem.W.keepIn K (.ref cs_V) = true)
    (nV1 : PySem.W.findIn K (.ref cs_V) "line" = some none)
    (nV2 : PySem.W.findIn K (.ref cs_V) "loudness" = some none)
    (nV3 : PySem.W.findIn K (.ref cs_V) "heard" = some none)
    (nV4 : PySem.W.findIn K (.ref cs_V) "state" = some none)
    (nV5 : PySem.W.findIn K (.ref cs_V) "steps" = some none)
    (nV6 : PySem.W.findIn K (.ref cs_V) "part" = some none)
    (nV7 : PySem.W.findIn K (.ref cs_V) "height" = some none)
    (aC_M : PySem.W.nsIn K mainGlobals "Mixer" = some (some (.ref cs_M)))
    (pg_M : PySem.W.plainGet K cs_M Str.empty = true)
    (hd_M : PySem.W.hasDictIn K cs_M = true)
    (po_M : PySem.W.plainOver K cs_M = true)
    (sa_M : PySem.W.findIn K (.ref cs_M) "__setattr__" = some (some (.builtin "object.__setattr__")))
    (mk_M : PySem.W.makesIn K cs_M = true)
    (kc_M : PySem.W.keepIn K (.ref cs_M) = true)
    (nM1 : PySem.W.findIn K (.ref cs_M) "soft" = some none)
    (nM2 : PySem.W.findIn K (.ref cs_M) "coming" = some none)
    (nM3 : PySem.W.findIn K (.ref cs_M) "voices" = some none)
    (nM4 : PySem.W.findIn K (.ref cs_M) "lacked" = some none)
    (a_is_whole : PySem.W.nsIn K mainGlobals "is_whole" = some (some (.ref f_is_whole)))
    (l_is_whole : K.lookup f_is_whole = some ⟨oc_is_whole, od_is_whole, .func (PySem.W.fnOf "is_whole" "is_whole" (defArgs s_is_whole) (defBody s_is_whole) (defScope s_is_whole) .none kV_is_whole dc_is_whole pm_is_whole an_is_whole cd_is_whole ct_is_whole), sl_is_whole⟩)
    (c_is_whole : PySem.W.codeIn K cd_is_whole "is_whole" = true)
    (k_is_whole : PySem.W.keepIn K (.ref f_is_whole) = true)
    (a_check_soft : PySem.W.nsIn K mainGlobals "check_soft" = some (some (.ref f_check_soft)))
    (l_check_soft : K.lookup f_check_soft = some ⟨oc_check_soft, od_check_soft, .func (PySem.W.fnOf "check_soft" "check_soft" (defArgs s_check_soft) (defBody s_check_soft) (defScope s_check_soft) .none kV_check_soft dc_check_soft pm_check_soft an_check_soft cd_check_soft ct_check_soft), sl_check_soft⟩)
    (c_check_soft : PySem.W.codeIn K cd_check_soft "check_soft" = true)
    (k_check_soft : PySem.W.keepIn K (.ref f_check_soft) = true)
    (a_check_name : PySem.W.nsIn K mainGlobals "check_name" = some (some (.ref f_check_name)))
    (l_check_name : K.lookup f_check_name = some ⟨oc_check_name, od_check_name, .func (PySem.W.fnOf "check_name" "check_name" (defArgs s_check_name) (defBody s_check_name) (defScope s_check_name) .none kV_check_name dc_check_name pm_check_name an_check_name cd_check_name ct_check_name), sl_check_name⟩)
    (c_check_name : PySem.W.codeIn K cd_check_name "check_name" = true)
    (k_check_name : PySem.W.keepIn K (.ref f_check_name) = true)
    (a_check_pace : PySem.W.nsIn K mainGlobals "check_pace" = some (some (.ref f_check_pace)))
    (l_check_pace : K.lookup f_check_pace = some ⟨oc_check_pace, od_check_pace, .func (PySem.W.fnOf "check_pace" "check_pace" (defArgs s_check_pace) (defBody s_check_pace) (defScope s_check_pace) .none kV_check_pace dc_check_pace pm_check_pace an_check_pace cd_check_pace ct_check_pace), sl_check_pace⟩)
    (c_check_pace : PySem.W.codeIn K cd_check_pace "check_pace" = true)
    (k_check_pace : PySem.W.keepIn K (.ref f_check_pace) = true)
    (a_check_wait : PySem.W.nsIn K mainGlobals "check_wait" = some (some (.ref f_check_wait)))
    (l_check_wait : K.lookup f_check_wait = some ⟨oc_check_wait, od_check_wait, .func (PySem.W.fnOf "check_wait" "check_wait" (defArgs s_check_wait) (defBody s_check_wait) (defScope s_check_wait) .none kV_check_wait dc_check_wait pm_check_wait an_check_wait cd_check_wait ct_check_wait), sl_check_wait⟩)
    (c_check_wait : PySem.W.codeIn K cd_check_wait "check_wait" = true)
    (k_check_wait : PySem.W.keepIn K (.ref f_check_wait) = true)
    (a_check_loudness : PySem.W.nsIn K mainGlobals "check_loudness" = some (some (.ref f_check_loudness)))
    (l_check_loudness : K.lookup f_check_loudness = some ⟨oc_check_loudness, od_check_loudness, .func (PySem.W.fnOf "check_loudness" "check_loudness" (defArgs s_check_loudness) (defBody s_check_loudness) (defScope s_check_loudness) .none kV_check_loudness dc_check_loudness pm_check_loudness an_check_loudness cd_check_loudness ct_check_loudness), sl_check_loudness⟩)
    (c_check_loudness : PySem.W.codeIn K cd_check_loudness "check_loudness" = true)
    (k_check_loudness : PySem.W.keepIn K (.ref f_check_loudness) = true)
    (a_ratio : PySem.W.nsIn K mainGlobals "ratio" = some (some (.ref f_ratio)))
    (l_ratio : K.lookup f_ratio = some ⟨oc_ratio, od_ratio, .func (PySem.W.fnOf "ratio" "ratio" (defArgs s_ratio) (defBody s_ratio) (defScope s_ratio) .none kV_ratio dc_ratio pm_ratio an_ratio cd_ratio ct_ratio), sl_ratio⟩)
    (c_ratio : PySem.W.codeIn K cd_ratio "ratio" = true)
    (k_ratio : PySem.W.keepIn K (.ref f_ratio) = true)
    (a_plus : PySem.W.nsIn K mainGlobals "plus" = some (some (.ref f_plus)))
    (l_plus : K.lookup f_plus = some ⟨oc_plus, od_plus, .func (PySem.W.fnOf "plus" "plus" (defArgs s_plus) (defBody s_plus) (defScope s_plus) .none kV_plus dc_plus pm_plus an_plus cd_plus ct_plus), sl_plus⟩)
    (c_plus : PySem.W.codeIn K cd_plus "plus" = true)
    (k_plus : PySem.W.keepIn K (.ref f_plus) = true)
    (a_times : PySem.W.nsIn K mainGlobals "times" = some (some (.ref f_times)))
    (l_times : K.lookup f_times = some ⟨oc_times, od_times, .func (PySem.W.fnOf "times" "times" (defArgs s_times) (defBody s_times) (defScope s_times) .none kV_times dc_times pm_times an_times cd_times ct_times), sl_times⟩)
    (c_times : PySem.W.codeIn K cd_times "times" = true)
    (k_times : PySem.W.keepIn K (.ref f_times) = true)
    (a_Line_init : PySem.W.findIn K (.ref cs_L) "__init__" = some (some (.ref f_Line_init)))
    (i_Line_init : PySem.W.isFn K (.ref f_Line_init) = true)
    (l_Line_init : K.lookup f_Line_init = some ⟨oc_Line_init, od_Line_init, .func (PySem.W.fnOf "__init__" "Line.__init__" (defArgs s_Line_init) (defBody s_Line_init) (defScope s_Line_init) .none kV_Line_init dc_Line_init pm_Line_init an_Line_init cd_Line_init ct_Line_init), sl_Line_init⟩)
    (c_Line_init : PySem.W.codeIn K cd_Line_init "Line.__init__" = true)
    (k_Line_init : PySem.W.keepIn K (.ref f_Line_init) = true)
    (a_Line_room : PySem.W.findIn K (.ref cs_L) "room" = some (some (.ref f_Line_room)))
    (i_Line_room : PySem.W.isFn K (.ref f_Line_room) = true)
    (l_Line_room : K.lookup f_Line_room = some ⟨oc_Line_room, od_Line_room, .func (PySem.W.fnOf "room" "Line.room" (defArgs s_Line_room) (defBody s_Line_room) (defScope s_Line_room) .none kV_Line_room dc_Line_room pm_Line_room an_Line_room cd_Line_room ct_Line_room), sl_Line_room⟩)
    (c_Line_room : PySem.W.codeIn K cd_Line_room "Line.room" = true)
    (k_Line_room : PySem.W.keepIn K (.ref f_Line_room) = true)
    (a_Line_begun : PySem.W.findIn K (.ref cs_L) "begun" = some (some (.ref f_Line_begun)))
    (i_Line_begun : PySem.W.isFn K (.ref f_Line_begun) = true)
    (l_Line_begun : K.lookup f_Line_begun = some ⟨oc_Line_begun, od_Line_begun, .func (PySem.W.fnOf "begun" "Line.begun" (defArgs s_Line_begun) (defBody s_Line_begun) (defScope s_Line_begun) .none kV_Line_begun dc_Line_begun pm_Line_begun an_Line_begun cd_Line_begun ct_Line_begun), sl_Line_begun⟩)
    (c_Line_begun : PySem.W.codeIn K cd_Line_begun "Line.begun" = true)
    (k_Line_begun : PySem.W.keepIn K (.ref f_Line_begun) = true)
    (a_spot : PySem.W.nsIn K mainGlobals "spot" = some (some (.ref f_spot)))
    (l_spot : K.lookup f_spot = some ⟨oc_spot, od_spot, .func (PySem.W.fnOf "spot" "spot" (defArgs s_spot) (defBody s_spot) (defScope s_spot) .none kV_spot dc_spot pm_spot an_spot cd_spot ct_spot), sl_spot⟩)
    (c_spot : PySem.W.codeIn K cd_spot "spot" = true)
    (k_spot : PySem.W.keepIn K (.ref f_spot) = true)
    (a_wanted : PySem.W.nsIn K mainGlobals "wanted" = some (some (.ref f_wanted)))
    (l_wanted : K.lookup f_wanted = some ⟨oc_wanted, od_wanted, .func (PySem.W.fnOf "wanted" "wanted" (defArgs s_wanted) (defBody s_wanted) (defScope s_wanted) .none kV_wanted dc_wanted pm_wanted an_wanted cd_wanted ct_wanted), sl_wanted⟩)
    (c_wanted : PySem.W.codeIn K cd_wanted "wanted" = true)
    (k_wanted : PySem.W.keepIn K (.ref f_wanted) = true)
    (a_Line_wants : PySem.W.findIn K (.ref cs_L) "wants" = some (some (.ref f_Line_wants)))
    (i_Line_wants : PySem.W.isFn K (.ref f_Line_wants) = true)
    (l_Line_wants : K.lookup f_Line_wants = some ⟨oc_Line_wants, od_Line_wants, .func (PySem.W.fnOf "wants" "Line.wants" (defArgs s_Line_wants) (defBody s_Line_wants) (defScope s_Line_wants) .none kV_Line_wants dc_Line_wants pm_Line_wants an_Line_wants cd_Line_wants ct_Line_wants), sl_Line_wants⟩)
    (c_Line_wants : PySem.W.codeIn K cd_Line_wants "Line.wants" = true)
    (k_Line_wants : PySem.W.keepIn K (.ref f_Line_wants) = true)
    (a_Line_over : PySem.W.findIn K (.ref cs_L) "over" = some (some (.ref f_Line_over)))
    (i_Line_over : PySem.W.isFn K (.ref f_Line_over) = true)
    (l_Line_over : K.lookup f_Line_over = some ⟨oc_Line_over, od_Line_over, .func (PySem.W.fnOf "over" "Line.over" (defArgs s_Line_over) (defBody s_Line_over) (defScope s_Line_over) .none kV_Line_over dc_Line_over pm_Line_over an_Line_over cd_Line_over ct_Line_over), sl_Line_over⟩)
    (c_Line_over : PySem.W.codeIn K cd_Line_over "Line.over" = true)
    (k_Line_over : PySem.W.keepIn K (.ref f_Line_over) = true)
    (a_Line_lacks : PySem.W.findIn K (.ref cs_L) "lacks" = some (some (.ref f_Line_lacks)))
    (i_Line_lacks : PySem.W.isFn K (.ref f_Line_lacks) = true)
    (l_Line_lacks : K.lookup f_Line_lacks = some ⟨oc_Line_lacks, od_Line_lacks, .func (PySem.W.fnOf "lacks" "Line.lacks" (defArgs s_Line_lacks) (defBody s_Line_lacks) (defScope s_Line_lacks) .none kV_Line_lacks dc_Line_lacks pm_Line_lacks an_Line_lacks cd_Line_lacks ct_Line_lacks), sl_Line_lacks⟩)
    (c_Line_lacks : PySem.W.codeIn K cd_Line_lacks "Line.lacks" = true)
    (k_Line_lacks : PySem.W.keepIn K (.ref f_Line_lacks) = true)
    (a_Line_ready : PySem.W.findIn K (.ref cs_L) "ready" = some (some (.ref f_Line_ready)))
    (i_Line_ready : PySem.W.isFn K (.ref f_Line_ready) = true)
    (l_Line_ready : K.lookup f_Line_ready = some ⟨oc_Line_ready, od_Line_ready, .func (PySem.W.fnOf "ready" "Line.ready" (defArgs s_Line_ready) (defBody s_Line_ready) (defScope s_Line_ready) .none kV_Line_ready dc_Line_ready pm_Line_ready an_Line_ready cd_Line_ready ct_Line_ready), sl_Line_ready⟩)
    (c_Line_ready : PySem.W.codeIn K cd_Line_ready "Line.ready" = true)
    (k_Line_ready : PySem.W.keepIn K (.ref f_Line_ready) = true)
    (a_Line_value : PySem.W.findIn K (.ref cs_L) "value" = some (some (.ref f_Line_value)))
    (i_Line_value : PySem.W.isFn K (.ref f_Line_value) = true)
    (l_Line_value : K.lookup f_Line_value = some ⟨oc_Line_value, od_Line_value, .func (PySem.W.fnOf "value" "Line.value" (defArgs s_Line_value) (defBody s_Line_value) (defScope s_Line_value) .none kV_Line_value dc_Line_value pm_Line_value an_Line_value cd_Line_value ct_Line_value), sl_Line_value⟩)
    (c_Line_value : PySem.W.codeIn K cd_Line_value "Line.value" = true)
    (k_Line_value : PySem.W.keepIn K (.ref f_Line_value) = true)
    (a_Line_take : PySem.W.findIn K (.ref cs_L) "take" = some (some (.ref f_Line_take)))
    (i_Line_take : PySem.W.isFn K (.ref f_Line_take) = true)
    (l_Line_take : K.lookup f_Line_take = some ⟨oc_Line_take, od_Line_take, .func (PySem.W.fnOf "take" "Line.take" (defArgs s_Line_take) (defBody s_Line_take) (defScope s_Line_take) .none kV_Line_take dc_Line_take pm_Line_take an_Line_take cd_Line_take ct_Line_take), sl_Line_take⟩)
    (c_Line_take : PySem.W.codeIn K cd_Line_take "Line.take" = true)
    (k_Line_take : PySem.W.keepIn K (.ref f_Line_take) = true)
    (a_Line_close : PySem.W.findIn K (.ref cs_L) "close" = some (some (.ref f_Line_close)))
    (i_Line_close : PySem.W.isFn K (.ref f_Line_close) = true)
    (l_Line_close : K.lookup f_Line_close = some ⟨oc_Line_close, od_Line_close, .func (PySem.W.fnOf "close" "Line.close" (defArgs s_Line_close) (defBody s_Line_close) (defScope s_Line_close) .none kV_Line_close dc_Line_close pm_Line_close an_Line_close cd_Line_close ct_Line_close), sl_Line_close⟩)
    (c_Line_close : PySem.W.codeIn K cd_Line_close "Line.close" = true)
    (k_Line_close : PySem.W.keepIn K (.ref f_Line_close) = true)
    (a_Loudness_init : PySem.W.findIn K (.ref cs_D) "__init__" = some (some (.ref f_Loudness_init)))
    (i_Loudness_init : PySem.W.isFn K (.ref f_Loudness_init) = true)
    (l_Loudness_init : K.lookup f_Loudness_init = some ⟨oc_Loudness_init, od_Loudness_init, .func (PySem.W.fnOf "__init__" "Loudness.__init__" (defArgs s_Loudness_init) (defBody s_Loudness_init) (defScope s_Loudness_init) .none kV_Loudness_init dc_Loudness_init pm_Loudness_init an_Loudness_init cd_Loudness_init ct_Loudness_init), sl_Loudness_init⟩)
    (c_Loudness_init : PySem.W.codeIn K cd_Loudness_init "Loudness.__init__" = true)
    (k_Loudness_init : PySem.W.keepIn K (.ref f_Loudness_init) = true)
    (a_Loudness_lead_on : PySem.W.findIn K (.ref cs_D) "lead_on" = some (some (.ref f_Loudness_lead_on)))
    (i_Loudness_lead_on : PySem.W.isFn K (.ref f_Loudness_lead_on) = true)
    (l_Loudness_lead_on : K.lookup f_Loudness_lead_on = some ⟨oc_Loudness_lead_on, od_Loudness_lead_on, .func (PySem.W.fnOf "lead_on" "Loudness.lead_on" (defArgs s_Loudness_lead_on) (defBody s_Loudness_lead_on) (defScope s_Loudness_lead_on) .none kV_Loudness_lead_on dc_Loudness_lead_on pm_Loudness_lead_on an_Loudness_lead_on cd_Loudness_lead_on ct_Loudness_lead_on), sl_Loudness_lead_on⟩)
    (c_Loudness_lead_on : PySem.W.codeIn K cd_Loudness_lead_on "Loudness.lead_on" = true)
    (k_Loudness_lead_on : PySem.W.keepIn K (.ref f_Loudness_lead_on) = true)
    (a_Voice_fall : PySem.W.findIn K (.ref cs_V) "fall" = some (some (.ref f_Voice_fall)))
    (i_Voice_fall : PySem.W.isFn K (.ref f_Voice_fall) = true)
    (l_Voice_fall : K.lookup f_Voice_fall = some ⟨oc_Voice_fall, od_Voice_fall, .func (PySem.W.fnOf "fall" "Voice.fall" (defArgs s_Voice_fall) (defBody s_Voice_fall) (defScope s_Voice_fall) .none kV_Voice_fall dc_Voice_fall pm_Voice_fall an_Voice_fall cd_Voice_fall ct_Voice_fall), sl_Voice_fall⟩)
    (c_Voice_fall : PySem.W.codeIn K cd_Voice_fall "Voice.fall" = true)
    (k_Voice_fall : PySem.W.keepIn K (.ref f_Voice_fall) = true)
    (a_Voice_rise : PySem.W.findIn K (.ref cs_V) "rise" = some (some (.ref f_Voice_rise)))
    (i_Voice_rise : PySem.W.isFn K (.ref f_Voice_rise) = true)
    (l_Voice_rise : K.lookup f_Voice_rise = some ⟨oc_Voice_rise, od_Voice_rise, .func (PySem.W.fnOf "rise" "Voice.rise" (defArgs s_Voice_rise) (defBody s_Voice_rise) (defScope s_Voice_rise) .none kV_Voice_rise dc_Voice_rise pm_Voice_rise an_Voice_rise cd_Voice_rise ct_Voice_rise), sl_Voice_rise⟩)
    (c_Voice_rise : PySem.W.codeIn K cd_Voice_rise "Voice.rise" = true)
    (k_Voice_rise : PySem.W.keepIn K (.ref f_Voice_rise) = true)
    (a_Voice_begin_fall : PySem.W.findIn K (.ref cs_V) "begin_fall" = some (some (.ref f_Voice_begin_fall)))
    (i_Voice_begin_fall : PySem.W.isFn K (.ref f_Voice_begin_fall) = true)
    (l_Voice_begin_fall : K.lookup f_Voice_begin_fall = some ⟨oc_Voice_begin_fall, od_Voice_begin_fall, .func (PySem.W.fnOf "begin_fall" "Voice.begin_fall" (defArgs s_Voice_begin_fall) (defBody s_Voice_begin_fall) (defScope s_Voice_begin_fall) .none kV_Voice_begin_fall dc_Voice_begin_fall pm_Voice_begin_fall an_Voice_begin_fall cd_Voice_begin_fall ct_Voice_begin_fall), sl_Voice_begin_fall⟩)
    (c_Voice_begin_fall : PySem.W.codeIn K cd_Voice_begin_fall "Voice.begin_fall" = true)
    (k_Voice_begin_fall : PySem.W.keepIn K (.ref f_Voice_begin_fall) = true)
    (a_Voice_sound : PySem.W.findIn K (.ref cs_V) "sound" = some (some (.ref f_Voice_sound)))
    (i_Voice_sound : PySem.W.isFn K (.ref f_Voice_sound) = true)
    (l_Voice_sound : K.lookup f_Voice_sound = some ⟨oc_Voice_sound, od_Voice_sound, .func (PySem.W.fnOf "sound" "Voice.sound" (defArgs s_Voice_sound) (defBody s_Voice_sound) (defScope s_Voice_sound) .none kV_Voice_sound dc_Voice_sound pm_Voice_sound an_Voice_sound cd_Voice_sound ct_Voice_sound), sl_Voice_sound⟩)
    (c_Voice_sound : PySem.W.codeIn K cd_Voice_sound "Voice.sound" = true)
    (k_Voice_sound : PySem.W.keepIn K (.ref f_Voice_sound) = true)
    (a_Voice_init : PySem.W.findIn K (.ref cs_V) "__init__" = some (some (.ref f_Voice_init)))
    (i_Voice_init : PySem.W.isFn K (.ref f_Voice_init) = true)
    (l_Voice_init : K.lookup f_Voice_init = some ⟨oc_Voice_init, od_Voice_init, .func (PySem.W.fnOf "__init__" "Voice.__init__" (defArgs s_Voice_init) (defBody s_Voice_init) (defScope s_Voice_init) .none kV_Voice_init dc_Voice_init pm_Voice_init an_Voice_init cd_Voice_init ct_Voice_init), sl_Voice_init⟩)
    (c_Voice_init : PySem.W.codeIn K cd_Voice_init "Voice.__init__" = true)
    (k_Voice_init : PySem.W.keepIn K (.ref f_Voice_init) = true)
    (a_Voice_give : PySem.W.findIn K (.ref cs_V) "give" = some (some (.ref f_Voice_give)))
    (i_Voice_give : PySem.W.isFn K (.ref f_Voice_give) = true)
    (l_Voice_give : K.lookup f_Voice_give = some ⟨oc_Voice_give, od_Voice_give, .func (PySem.W.fnOf "give" "Voice.give" (defArgs s_Voice_give) (defBody s_Voice_give) (defScope s_Voice_give) .none kV_Voice_give dc_Voice_give pm_Voice_give an_Voice_give cd_Voice_give ct_Voice_give), sl_Voice_give⟩)
    (c_Voice_give : PySem.W.codeIn K cd_Voice_give "Voice.give" = true)
    (k_Voice_give : PySem.W.keepIn K (.ref f_Voice_give) = true)
    (a_Mixer_init : PySem.W.findIn K (.ref cs_M) "__init__" = some (some (.ref f_Mixer_init)))
    (i_Mixer_init : PySem.W.isFn K (.ref f_Mixer_init) = true)
    (l_Mixer_init : K.lookup f_Mixer_init = some ⟨oc_Mixer_init, od_Mixer_init, .func (PySem.W.fnOf "__init__" "Mixer.__init__" (defArgs s_Mixer_init) (defBody s_Mixer_init) (defScope s_Mixer_init) .none kV_Mixer_init dc_Mixer_init pm_Mixer_init an_Mixer_init cd_Mixer_init ct_Mixer_init), sl_Mixer_init⟩)
    (c_Mixer_init : PySem.W.codeIn K cd_Mixer_init "Mixer.__init__" = true)
    (k_Mixer_init : PySem.W.keepIn K (.ref f_Mixer_init) = true)
    (a_Mixer_voice_of : PySem.W.findIn K (.ref cs_M) "voice_of" = some (some (.ref f_Mixer_voice_of)))
    (i_Mixer_voice_of : PySem.W.isFn K (.ref f_Mixer_voice_of) = true)
    (l_Mixer_voice_of : K.lookup f_Mixer_voice_of = some ⟨oc_Mixer_voice_of, od_Mixer_voice_of, .func (PySem.W.fnOf "voice_of" "Mixer.voice_of" (defArgs s_Mixer_voice_of) (defBody s_Mixer_voice_of) (defScope s_Mixer_voice_of) .none kV_Mixer_voice_of dc_Mixer_voice_of pm_Mixer_voice_of an_Mixer_voice_of cd_Mixer_voice_of ct_Mixer_voice_of), sl_Mixer_voice_of⟩)
    (c_Mixer_voice_of : PySem.W.codeIn K cd_Mixer_voice_of "Mixer.voice_of" = true)
    (k_Mixer_voice_of : PySem.W.keepIn K (.ref f_Mixer_voice_of) = true)
    (a_Mixer_add : PySem.W.findIn K (.ref cs_M) "add" = some (some (.ref f_Mixer_add)))
    (i_Mixer_add : PySem.W.isFn K (.ref f_Mixer_add) = true)
    (l_Mixer_add : K.lookup f_Mixer_add = some ⟨oc_Mixer_add, od_Mixer_add, .func (PySem.W.fnOf "add" "Mixer.add" (defArgs s_Mixer_add) (defBody s_Mixer_add) (defScope s_Mixer_add) .none kV_Mixer_add dc_Mixer_add pm_Mixer_add an_Mixer_add cd_Mixer_add ct_Mixer_add), sl_Mixer_add⟩)
    (c_Mixer_add : PySem.W.codeIn K cd_Mixer_add "Mixer.add" = true)
    (k_Mixer_add : PySem.W.keepIn K (.ref f_Mixer_add) = true)
    (a_Mixer_parcel : PySem.W.findIn K (.ref cs_M) "parcel" = some (some (.ref f_Mixer_parcel)))
    (i_Mixer_parcel : PySem.W.isFn K (.ref f_Mixer_parcel) = true)
    (l_Mixer_parcel : K.lookup f_Mixer_parcel = some ⟨oc_Mixer_parcel, od_Mixer_parcel, .func (PySem.W.fnOf "parcel" "Mixer.parcel" (defArgs s_Mixer_parcel) (defBody s_Mixer_parcel) (defScope s_Mixer_parcel) .none kV_Mixer_parcel dc_Mixer_parcel pm_Mixer_parcel an_Mixer_parcel cd_Mixer_parcel ct_Mixer_parcel), sl_Mixer_parcel⟩)
    (c_Mixer_parcel : PySem.W.codeIn K cd_Mixer_parcel "Mixer.parcel" = true)
    (k_Mixer_parcel : PySem.W.keepIn K (.ref f_Mixer_parcel) = true)
    (a_Mixer_end : PySem.W.findIn K (.ref cs_M) "end" = some (some (.ref f_Mixer_end)))
    (i_Mixer_end : PySem.W.isFn K (.ref f_Mixer_end) = true)
    (l_Mixer_end : K.lookup f_Mixer_end = some ⟨oc_Mixer_end, od_Mixer_end, .func (PySem.W.fnOf "end" "Mixer.end" (defArgs s_Mixer_end) (defBody s_Mixer_end) (defScope s_Mixer_end) .none kV_Mixer_end dc_Mixer_end pm_Mixer_end an_Mixer_end cd_Mixer_end ct_Mixer_end), sl_Mixer_end⟩)
    (c_Mixer_end : PySem.W.codeIn K cd_Mixer_end "Mixer.end" = true)
    (k_Mixer_end : PySem.W.keepIn K (.ref f_Mixer_end) = true)
    (a_Mixer_beat : PySem.W.findIn K (.ref cs_M) "beat" = some (some (.ref f_Mixer_beat)))
    (i_Mixer_beat : PySem.W.isFn K (.ref f_Mixer_beat) = true)
    (l_Mixer_beat : K.lookup f_Mixer_beat = some ⟨oc_Mixer_beat, od_Mixer_beat, .func (PySem.W.fnOf "beat" "Mixer.beat" (defArgs s_Mixer_beat) (defBody s_Mixer_beat) (defScope s_Mixer_beat) .none kV_Mixer_beat dc_Mixer_beat pm_Mixer_beat an_Mixer_beat cd_Mixer_beat ct_Mixer_beat), sl_Mixer_beat⟩)
    (c_Mixer_beat : PySem.W.codeIn K cd_Mixer_beat "Mixer.beat" = true)
    (k_Mixer_beat : PySem.W.keepIn K (.ref f_Mixer_beat) = true)
    (a_Mixer_missed : PySem.W.findIn K (.ref cs_M) "missed" = some (some (.ref f_Mixer_missed)))
    (i_Mixer_missed : PySem.W.isFn K (.ref f_Mixer_missed) = true)
    (l_Mixer_missed : K.lookup f_Mixer_missed = some ⟨oc_Mixer_missed, od_Mixer_missed, .func (PySem.W.fnOf "missed" "Mixer.missed" (defArgs s_Mixer_missed) (defBody s_Mixer_missed) (defScope s_Mixer_missed) .none kV_Mixer_missed dc_Mixer_missed pm_Mixer_missed an_Mixer_missed cd_Mixer_missed ct_Mixer_missed), sl_Mixer_missed⟩)
    (c_Mixer_missed : PySem.W.codeIn K cd_Mixer_missed "Mixer.missed" = true)
    (k_Mixer_missed : PySem.W.keepIn K (.ref f_Mixer_missed) = true)
    (a_Mixer_hush : PySem.W.findIn K (.ref cs_M) "hush" = some (some (.ref f_Mixer_hush)))
    (i_Mixer_hush : PySem.W.isFn K (.ref f_Mixer_hush) = true)
    (l_Mixer_hush : K.lookup f_Mixer_hush = some ⟨oc_Mixer_hush, od_Mixer_hush, .func (PySem.W.fnOf "hush" "Mixer.hush" (defArgs s_Mixer_hush) (defBody s_Mixer_hush) (defScope s_Mixer_hush) .none kV_Mixer_hush dc_Mixer_hush pm_Mixer_hush an_Mixer_hush cd_Mixer_hush ct_Mixer_hush), sl_Mixer_hush⟩)
    (c_Mixer_hush : PySem.W.codeIn K cd_Mixer_hush "Mixer.hush" = true)
    (k_Mixer_hush : PySem.W.keepIn K (.ref f_Mixer_hush) = true)
    (a_law_taken : PySem.W.nsIn K mainGlobals "_law_taken" = some (some (.ref f_law_taken)))
    (l_law_taken : K.lookup f_law_taken = some ⟨oc_law_taken, od_law_taken, .func (PySem.W.fnOf "_law_taken" "_law_taken" (defArgs s_law_taken) (defBody s_law_taken) (defScope s_law_taken) .none kV_law_taken dc_law_taken pm_law_taken an_law_taken cd_law_taken ct_law_taken), sl_law_taken⟩)
    (c_law_taken : PySem.W.codeIn K cd_law_taken "_law_taken" = true)
    (k_law_taken : PySem.W.keepIn K (.ref f_law_taken) = true)
    (a_law_number : PySem.W.nsIn K mainGlobals "_law_number" = some (some (.ref f_law_number)))
    (l_law_number : K.lookup f_law_number = some ⟨oc_law_number, od_law_number, .func (PySem.W.fnOf "_law_number" "_law_number" (defArgs s_law_number) (defBody s_law_number) (defScope s_law_number) .none kV_law_number dc_law_number pm_law_number an_law_number cd_law_number ct_law_number), sl_law_number⟩)
    (c_law_number : PySem.W.codeIn K cd_law_number "_law_number" = true)
    (k_law_number : PySem.W.keepIn K (.ref f_law_number) = true)
    (a_law_pace : PySem.W.nsIn K mainGlobals "_law_pace" = some (some (.ref f_law_pace)))
    (l_law_pace : K.lookup f_law_pace = some ⟨oc_law_pace, od_law_pace, .func (PySem.W.fnOf "_law_pace" "_law_pace" (defArgs s_law_pace) (defBody s_law_pace) (defScope s_law_pace) .none kV_law_pace dc_law_pace pm_law_pace an_law_pace cd_law_pace ct_law_pace), sl_law_pace⟩)
    (c_law_pace : PySem.W.codeIn K cd_law_pace "_law_pace" = true)
    (k_law_pace : PySem.W.keepIn K (.ref f_law_pace) = true)
    (a_law_places : PySem.W.nsIn K mainGlobals "_law_places" = some (some (.ref f_law_places)))
    (l_law_places : K.lookup f_law_places = some ⟨oc_law_places, od_law_places, .func (PySem.W.fnOf "_law_places" "_law_places" (defArgs s_law_places) (defBody s_law_places) (defScope s_law_places) .none kV_law_places dc_law_places pm_law_places an_law_places cd_law_places ct_law_places), sl_law_places⟩)
    (c_law_places : PySem.W.codeIn K cd_law_places "_law_places" = true)
    (k_law_places : PySem.W.keepIn K (.ref f_law_places) = true)
    (a_law_is_over : PySem.W.nsIn K mainGlobals "_law_is_over" = some (some (.ref f_law_is_over)))
    (l_law_is_over : K.lookup f_law_is_over = some ⟨oc_law_is_over, od_law_is_over, .func (PySem.W.fnOf "_law_is_over" "_law_is_over" (defArgs s_law_is_over) (defBody s_law_is_over) (defScope s_law_is_over) .none kV_law_is_over dc_law_is_over pm_law_is_over an_law_is_over cd_law_is_over ct_law_is_over), sl_law_is_over⟩)
    (c_law_is_over : PySem.W.codeIn K cd_law_is_over "_law_is_over" = true)
    (k_law_is_over : PySem.W.keepIn K (.ref f_law_is_over) = true)
    (a_law_lacks : PySem.W.nsIn K mainGlobals "_law_lacks" = some (some (.ref f_law_lacks)))
    (l_law_lacks : K.lookup f_law_lacks = some ⟨oc_law_lacks, od_law_lacks, .func (PySem.W.fnOf "_law_lacks" "_law_lacks" (defArgs s_law_lacks) (defBody s_law_lacks) (defScope s_law_lacks) .none kV_law_lacks dc_law_lacks pm_law_lacks an_law_lacks cd_law_lacks ct_law_lacks), sl_law_lacks⟩)
    (c_law_lacks : PySem.W.codeIn K cd_law_lacks "_law_lacks" = true)
    (k_law_lacks : PySem.W.keepIn K (.ref f_law_lacks) = true)
    (a_law_alike : PySem.W.nsIn K mainGlobals "_law_alike" = some (some (.ref f_law_alike)))
    (l_law_alike : K.lookup f_law_alike = some ⟨oc_law_alike, od_law_alike, .func (PySem.W.fnOf "_law_alike" "_law_alike" (defArgs s_law_alike) (defBody s_law_alike) (defScope s_law_alike) .none kV_law_alike dc_law_alike pm_law_alike an_law_alike cd_law_alike ct_law_alike), sl_law_alike⟩)
    (c_law_alike : PySem.W.codeIn K cd_law_alike "_law_alike" = true)
    (k_law_alike : PySem.W.keepIn K (.ref f_law_alike) = true)
    (a_law : PySem.W.nsIn K mainGlobals "law" = some (some (.ref f_law)))
    (l_law : K.lookup f_law = some ⟨oc_law, od_law, .func (PySem.W.fnOf "law" "law" (defArgs s_law) (defBody s_law) (defScope s_law) .none kV_law dc_law pm_law an_law cd_law ct_law), sl_law⟩)
    (c_law : PySem.W.codeIn K cd_law "law" = true)
    (k_law : PySem.W.keepIn K (.ref f_law) = true)
    (z_isinstance : PySem.W.nsIn K mainGlobals "isinstance" = some none)
    (z_bool : PySem.W.nsIn K mainGlobals "bool" = some none)
    (z_int : PySem.W.nsIn K mainGlobals "int" = some none)
    (z_tuple : PySem.W.nsIn K mainGlobals "tuple" = some none)
    (z_len : PySem.W.nsIn K mainGlobals "len" = some none)
    (z_all : PySem.W.nsIn K mainGlobals "all" = some none)
    (z_any : PySem.W.nsIn K mainGlobals "any" = some none)
    (z_min : PySem.W.nsIn K mainGlobals "min" = some none)
    (z_max : PySem.W.nsIn K mainGlobals "max" = some none)
    (z_divmod : PySem.W.nsIn K mainGlobals "divmod" = some none)
    (z_enumerate : PySem.W.nsIn K mainGlobals "enumerate" = some none)
    (z_sorted : PySem.W.nsIn K mainGlobals "sorted" = some none)
    (z_list : PySem.W.nsIn K mainGlobals "list" = some none)
    (z_range : PySem.W.nsIn K mainGlobals "range" = some none)
    (z_abs : PySem.W.nsIn K mainGlobals "abs" = some none)
    (z_str : PySem.W.nsIn K mainGlobals "str" = some none)
    (z_set : PySem.W.nsIn K mainGlobals "set" = some none)
    (z_gcd : PySem.W.nsIn K mainGlobals "gcd" = some (some (.builtin "math.gcd")))
    (v_MOST : PySem.W.nsIn K mainGlobals "MOST" = some (some (.int 1000 t_MOST)))
    (v_FULL : PySem.W.nsIn K mainGlobals "FULL" = some (some (.int 64 t_FULL)))
    (v_HUSHED : PySem.W.nsIn K mainGlobals "HUSHED" = some (some (.str "hushed" t_HUSHED)))
    (v_RISING : PySem.W.nsIn K mainGlobals "RISING" = some (some (.str "rising" t_RISING)))
    (v_ON : PySem.W.nsIn K mainGlobals "ON" = some (some (.str "on" t_ON)))
    (v_FALLING : PySem.W.nsIn K mainGlobals "FALLING" = some (some (.str "falling" t_FALLING)))
    (v_NOTHING : PySem.W.nsIn K mainGlobals "NOTHING" = some (some (.ref aN)))
    (l_NOTHING : K.lookup aN = some ⟨.type "tuple", odN, .seq #[.int 0 tN0, .int 1 tN1] nN, slN⟩) :
    ∃ fd : FuncData, (∀ (s : Shared) (v : Value), BindsTo s fd ⟨[v], []⟩ [("_law_script", v)]) ∧ ∀ base : Heap, K.In base → base.Ns mainGlobals mg → FnOk l.prog w K mg base CX0 9 fa fd ["_law_script"] (sp_law K) := by
  have e := hfa.symm.trans (PySem.W.mg_of X G a_law)
  cases e
  have B : Blt mg := ⟨PySem.W.mg_none_of X G z_isinstance, PySem.W.mg_none_of X G z_bool, PySem.W.mg_none_of X G z_int, PySem.W.mg_none_of X G z_tuple, PySem.W.mg_none_of X G z_len, PySem.W.mg_none_of X G z_all, PySem.W.mg_none_of X G z_any, PySem.W.mg_none_of X G z_max, PySem.W.mg_none_of X G z_divmod, PySem.W.mg_none_of X G z_enumerate, PySem.W.mg_none_of X G z_sorted, PySem.W.mg_none_of X G z_list, PySem.W.mg_none_of X G z_range, PySem.W.mg_none_of X G z_abs, PySem.W.mg_none_of X G z_str, PySem.W.mg_of X G z_gcd⟩
  have hMOST := PySem.W.mg_of X G v_MOST
  have sqN : ∀ H : Hp, SqT K H aN (frac 0) := fun H => .inr ⟨_, _, _, l_NOTHING, rfl, rfl, by show 2 ≤ sizeLine; decide, .cons ⟨_, rfl⟩ (.cons ⟨_, rfl⟩ .nil)⟩
  have TT : TC K mg := ⟨⟨_, PySem.W.mg_of X G v_NOTHING, sqN⟩, ⟨_, PySem.W.mg_of X G v_MOST⟩, ⟨_, PySem.W.mg_of X G v_FULL⟩, ⟨_, PySem.W.mg_of X G v_HUSHED⟩, ⟨_, PySem.W.mg_of X G v_RISING⟩, ⟨_, PySem.W.mg_of X G v_ON⟩, ⟨_, PySem.W.mg_of X G v_FALLING⟩⟩
  obtain ⟨cs, hcs⟩ : ∃ cs : Cs, cs = ⟨cs_L, cs_D, cs_V, cs_M⟩ := ⟨_, rfl⟩
  have eL : cs_L = cs.L := by rw [hcs]
  have eD : cs_D = cs.D := by rw [hcs]
  have eV : cs_V = cs.V := by rw [hcs]
  have eM : cs_M = cs.M := by rw [hcs]
  clear hcs
  subst eL eD eV eM
  have C_L : Cls K cs.L := ⟨pg_L, hd_L, po_L, sa_L⟩
  have T_L : TL K cs.L := ⟨C_L, nL1, nL2, nL3, nL4, nL5⟩
  have C_D : Cls K cs.D := ⟨pg_D, hd_D, po_D, sa_D⟩
  have T_D : TD K cs.D := ⟨C_D, nD1, nD2, nD3⟩
  have C_V : Cls K cs.V := ⟨pg_V, hd_V, po_V, sa_V⟩
  have T_V : TV K cs.V := ⟨C_V, nV1, nV2, nV3, nV4, nV5, nV6, nV7⟩
  have C_M : Cls K cs.M := ⟨pg_M, hd_M, po_M, sa_M⟩
  have T_M : TM K cs.M := ⟨C_M, nM1, nM2, nM3, nM4⟩
  have F_is_whole := fun_mk (st := s_is_whole) l_is_whole c_is_whole k_is_whole
  have b_is_whole := F_is_whole.binds (ps := ["number", "low", "high"]) fun _ _ _ _ _ _ us hl => match us, hl with | [_, _, _], _ => rfl
  have F_check_soft := fun_mk (st := s_check_soft) l_check_soft c_check_soft k_check_soft
  have b_check_soft := F_check_soft.binds (ps := ["soft"]) fun _ _ _ _ _ _ us hl => match us, hl with | [_], _ => rfl
  have F_check_name := fun_mk (st := s_check_name) l_check_name c_check_name k_check_name
  have b_check_name := F_check_name.binds (ps := ["name"]) fun _ _ _ _ _ _ us hl => match us, hl with | [_], _ => rfl
  have F_check_pace := fun_mk (st := s_check_pace) l_check_pace c_check_pace k_check_pace
  have b_check_pace := F_check_pace.binds (ps := ["pace"]) fun _ _ _ _ _ _ us hl => match us, hl with | [_], _ => rfl
  have F_check_wait := fun_mk (st := s_check_wait) l_check_wait c_check_wait k_check_wait
  have b_check_wait := F_check_wait.binds (ps := ["wait"]) fun _ _ _ _ _ _ us hl => match us, hl with | [_], _ => rfl
  have F_check_loudness := fun_mk (st := s_check_loudness) l_check_loudness c_check_loudness k_check_loudness
  have b_check_loudness := F_check_loudness.binds (ps := ["loudness"]) fun _ _ _ _ _ _ us hl => match us, hl with | [_], _ => rfl
  have F_ratio := fun_mk (st := s_ratio) l_ratio c_ratio k_ratio
  have b_ratio := F_ratio.binds (ps := ["top", "bottom"]) fun _ _ _ _ _ _ us hl => match us, hl with | [_, _], _ => rfl
  have F_plus := fun_mk (st := s_plus) l_plus c_plus k_plus
  have b_plus := F_plus.binds (ps := ["one", "other"]) fun _ _ _ _ _ _ us hl => match us, hl with | [_, _], _ => rfl
  have F_times := fun_mk (st := s_times) l_times c_times k_times
  have b_times := F_times.binds (ps := ["one", "other"]) fun _ _ _ _ _ _ us hl => match us, hl with | [_, _], _ => rfl
  have F_Line_init := fun_mk (st := s_Line_init) l_Line_init c_Line_init k_Line_init
  have b_Line_init := F_Line_init.binds (ps := ["self", "pace", "begin"]) fun _ _ _ _ _ _ us hl => match us, hl with | [_, _, _], _ => rfl
  have F_Line_room := fun_mk (st := s_Line_room) l_Line_room c_Line_room k_Line_room
  have b_Line_room := F_Line_room.binds (ps := ["self"]) fun _ _ _ _ _ _ us hl => match us, hl with | [_], _ => rfl
  have F_Line_begun := fun_mk (st := s_Line_begun) l_Line_begun c_Line_begun k_Line_begun
  have b_Line_begun := F_Line_begun.binds (ps := ["self", "beat"]) fun _ _ _ _ _ _ us hl => match us, hl with | [_, _], _ => rfl
  have F_spot := fun_mk (st := s_spot) l_spot c_spot k_spot
  have b_spot := F_spot.binds (ps := ["pace", "passed"]) fun _ _ _ _ _ _ us hl => match us, hl with | [_, _], _ => rfl
  have F_wanted := fun_mk (st := s_wanted) l_wanted c_wanted k_wanted
  have b_wanted := F_wanted.binds (ps := ["pace", "passed"]) fun _ _ _ _ _ _ us hl => match us, hl with | [_, _], _ => rfl
  have F_Line_wants := fun_mk (st := s_Line_wants) l_Line_wants c_Line_wants k_Line_wants
  have b_Line_wants := F_Line_wants.binds (ps := ["self", "beat"]) fun _ _ _ _ _ _ us hl => match us, hl with | [_, _], _ => rfl
  have F_Line_over := fun_mk (st := s_Line_over) l_Line_over c_Line_over k_Line_over
  have b_Line_over := F_Line_over.binds (ps := ["self", "beat"]) fun _ _ _ _ _ _ us hl => match us, hl with | [_, _], _ => rfl
  have F_Line_lacks := fun_mk (st := s_Line_lacks) l_Line_lacks c_Line_lacks k_Line_lacks
  have b_Line_lacks := F_Line_lacks.binds (ps := ["self", "beat"]) fun _ _ _ _ _ _ us hl => match us, hl with | [_, _], _ => rfl
  have F_Line_ready := fun_mk (st := s_Line_ready) l_Line_ready c_Line_ready k_Line_ready
  have b_Line_ready := F_Line_ready.binds (ps := ["self", "beat"]) fun _ _ _ _ _ _ us hl => match us, hl with | [_, _], _ => rfl
  have F_Line_value := fun_mk (st := s_Line_value) l_Line_value c_Line_value k_Line_value
  have b_Line_value := F_Line_value.binds (ps := ["self", "beat"]) fun _ _ _ _ _ _ us hl => match us, hl with | [_, _], _ => rfl
  have F_Line_take := fun_mk (st := s_Line_take) l_Line_take c_Line_take k_Line_take
  have b_Line_take := F_Line_take.binds (ps := ["self", "place", "numbers"]) fun _ _ _ _ _ _ us hl => match us, hl with | [_, _, _], _ => rfl
  have F_Line_close := fun_mk (st := s_Line_close) l_Line_close c_Line_close k_Line_close
  have b_Line_close := F_Line_close.binds (ps := ["self", "many"]) fun _ _ _ _ _ _ us hl => match us, hl with | [_, _], _ => rfl
  have F_Loudness_init := fun_mk (st := s_Loudness_init) l_Loudness_init c_Loudness_init k_Loudness_init
  have b_Loudness_init := F_Loudness_init.binds (ps := ["self", "loudness"]) fun _ _ _ _ _ _ us hl => match us, hl with | [_, _], _ => rfl
  have F_Loudness_lead_on := fun_mk (st := s_Loudness_lead_on) l_Loudness_lead_on c_Loudness_lead_on k_Loudness_lead_on
  have b_Loudness_lead_on := F_Loudness_lead_on.binds (ps := ["self"]) fun _ _ _ _ _ _ us hl => match us, hl with | [_], _ => rfl
  have F_Voice_fall := fun_mk (st := s_Voice_fall) l_Voice_fall c_Voice_fall k_Voice_fall
  have b_Voice_fall := F_Voice_fall.binds (ps := ["self", "soft"]) fun _ _ _ _ _ _ us hl => match us, hl with | [_, _], _ => rfl
  have F_Voice_rise := fun_mk (st := s_Voice_rise) l_Voice_rise c_Voice_rise k_Voice_rise
  have b_Voice_rise := F_Voice_rise.binds (ps := ["self", "whole", "soft"]) fun _ _ _ _ _ _ us hl => match us, hl with | [_, _, _], _ => rfl
  have F_Voice_begin_fall := fun_mk (st := s_Voice_begin_fall) l_Voice_begin_fall c_Voice_begin_fall k_Voice_begin_fall
  have b_Voice_begin_fall := F_Voice_begin_fall.binds (ps := ["self", "soft"]) fun _ _ _ _ _ _ us hl => match us, hl with | [_, _], _ => rfl
  have F_Voice_sound := fun_mk (st := s_Voice_sound) l_Voice_sound c_Voice_sound k_Voice_sound
  have b_Voice_sound := F_Voice_sound.binds (ps := ["self", "whole", "soft"]) fun _ _ _ _ _ _ us hl => match us, hl with | [_, _, _], _ => rfl
  have F_Voice_init := fun_mk (st := s_Voice_init) l_Voice_init c_Voice_init k_Voice_init
  have b_Voice_init := F_Voice_init.binds (ps := ["self", "pace", "begin", "loudness"]) fun _ _ _ _ _ _ us hl => match us, hl with | [_, _, _, _], _ => rfl
  have F_Voice_give := fun_mk (st := s_Voice_give) l_Voice_give c_Voice_give k_Voice_give
  have b_Voice_give := F_Voice_give.binds (ps := ["self", "beat", "soft"]) fun _ _ _ _ _ _ us hl => match us, hl with | [_, _, _], _ => rfl
  have F_Mixer_init := fun_mk (st := s_Mixer_init) l_Mixer_init c_Mixer_init k_Mixer_init
  have b_Mixer_init := F_Mixer_init.binds (ps := ["self", "soft"]) fun _ _ _ _ _ _ us hl => match us, hl with | [_, _], _ => rfl
  have F_Mixer_voice_of := fun_mk (st := s_Mixer_voice_of) l_Mixer_voice_of c_Mixer_voice_of k_Mixer_voice_of
  have b_Mixer_voice_of := F_Mixer_voice_of.binds (ps := ["self", "name"]) fun _ _ _ _ _ _ us hl => match us, hl with | [_, _], _ => rfl
  have F_Mixer_add := fun_mk (st := s_Mixer_add) l_Mixer_add c_Mixer_add k_Mixer_add
  have b_Mixer_add := F_Mixer_add.binds (ps := ["self", "name", "pace", "wait", "loudness"]) fun _ _ _ _ _ _ us hl => match us, hl with | [_, _, _, _, _], _ => rfl
  have F_Mixer_parcel := fun_mk (st := s_Mixer_parcel) l_Mixer_parcel c_Mixer_parcel k_Mixer_parcel
  have b_Mixer_parcel := F_Mixer_parcel.binds (ps := ["self", "name", "place", "numbers"]) fun _ _ _ _ _ _ us hl => match us, hl with | [_, _, _, _], _ => rfl
  have F_Mixer_end := fun_mk (st := s_Mixer_end) l_Mixer_end c_Mixer_end k_Mixer_end
  have b_Mixer_end := F_Mixer_end.binds (ps := ["self", "name", "many"]) fun _ _ _ _ _ _ us hl => match us, hl with | [_, _, _], _ => rfl
  have F_Mixer_beat := fun_mk (st := s_Mixer_beat) l_Mixer_beat c_Mixer_beat k_Mixer_beat
  have b_Mixer_beat := F_Mixer_beat.binds (ps := ["self"]) fun _ _ _ _ _ _ us hl => match us, hl with | [_], _ => rfl
  have F_Mixer_missed := fun_mk (st := s_Mixer_missed) l_Mixer_missed c_Mixer_missed k_Mixer_missed
  have b_Mixer_missed := F_Mixer_missed.binds (ps := ["self"]) fun _ _ _ _ _ _ us hl => match us, hl with | [_], _ => rfl
  have F_Mixer_hush := fun_mk (st := s_Mixer_hush) l_Mixer_hush c_Mixer_hush k_Mixer_hush
  have b_Mixer_hush := F_Mixer_hush.binds (ps := ["self", "name"]) fun _ _ _ _ _ _ us hl => match us, hl with | [_, _], _ => rfl
  have F_law_taken := fun_mk (st := s_law_taken) l_law_taken c_law_taken k_law_taken
  have b_law_taken := F_law_taken.binds (ps := ["_law_row", "_law_many"]) fun _ _ _ _ _ _ us hl => match us, hl with | [_, _], _ => rfl
  have F_law_number := fun_mk (st := s_law_number) l_law_number c_law_number k_law_number
  have b_law_number := F_law_number.binds (ps := ["_law_row"]) fun _ _ _ _ _ _ us hl => match us, hl with | [_], _ => rfl
  have F_law_pace := fun_mk (st := s_law_pace) l_law_pace c_law_pace k_law_pace
  have b_law_pace := F_law_pace.binds (ps := ["_law_row"]) fun _ _ _ _ _ _ us hl => match us, hl with | [_], _ => rfl
  have F_law_places := fun_mk (st := s_law_places) l_law_places c_law_places k_law_places
  have b_law_places := F_law_places.binds (ps := ["_law_v", "_law_beat"]) fun _ _ _ _ _ _ us hl => match us, hl with | [_, _], _ => rfl
  have F_law_is_over := fun_mk (st := s_law_is_over) l_law_is_over c_law_is_over k_law_is_over
  have b_law_is_over := F_law_is_over.binds (ps := ["_law_v", "_law_beat"]) fun _ _ _ _ _ _ us hl => match us, hl with | [_, _], _ => rfl
  have F_law_lacks := fun_mk (st := s_law_lacks) l_law_lacks c_law_lacks k_law_lacks
  have b_law_lacks := F_law_lacks.binds (ps := ["_law_v", "_law_beat"]) fun _ _ _ _ _ _ us hl => match us, hl with | [_, _], _ => rfl
  have F_law_alike := fun_mk (st := s_law_alike) l_law_alike c_law_alike k_law_alike
  have b_law_alike := F_law_alike.binds (ps := ["_law_found", "_law_due"]) fun _ _ _ _ _ _ us hl => match us, hl with | [_, _], _ => rfl
  have F_law := fun_mk (st := s_law) l_law c_law k_law
  refine ⟨PySem.W.fnOf "law" "law" (defArgs s_law) (defBody s_law) (defScope s_law) .none kV_law dc_law pm_law an_law cd_law ct_law, fun s v => .of_eq rfl, fun base _ _ => ?_⟩
  have G_is_whole : OwnF l.prog w K mg base "is_whole" 1 ["number", "low", "high"] sp_is_whole := ⟨_, _, ok_is_whole F_is_whole B, PySem.W.mg_of X G a_is_whole, k_is_whole, b_is_whole⟩
  have G_check_soft : OwnF l.prog w K mg base "check_soft" 2 ["soft"] (sp_in 1 16) := ⟨_, _, ok_check_soft F_check_soft G_is_whole, PySem.W.mg_of X G a_check_soft, k_check_soft, b_check_soft⟩
  have G_check_name : OwnF l.prog w K mg base "check_name" 2 ["name"] (sp_in 0 5) := ⟨_, _, ok_check_name F_check_name G_is_whole, PySem.W.mg_of X G a_check_name, k_check_name, b_check_name⟩
  have G_check_pace : OwnF l.prog w K mg base "check_pace" 2 ["pace"] sp_check_pace := ⟨_, _, ok_check_pace F_check_pace B G_is_whole, PySem.W.mg_of X G a_check_pace, k_check_pace, b_check_pace⟩
  have G_check_wait : OwnF l.prog w K mg base "check_wait" 2 ["wait"] (sp_in 0 64) := ⟨_, _, ok_check_wait F_check_wait G_is_whole, PySem.W.mg_of X G a_check_wait, k_check_wait, b_check_wait⟩
  have G_check_loudness : OwnF l.prog w K mg base "check_loudness" 2 ["loudness"] (sp_in 0 64) := ⟨_, _, ok_check_loudness F_check_loudness G_is_whole, PySem.W.mg_of X G a_check_loudness, k_check_loudness, b_check_loudness⟩
  have G_ratio : OwnF l.prog w K mg base "ratio" 1 ["top", "bottom"] sp_ratio := ⟨_, _, ok_ratio F_ratio B, PySem.W.mg_of X G a_ratio, k_ratio, b_ratio⟩
  have G_plus : OwnF l.prog w K mg base "plus" 2 ["one", "other"] (sp_two (· + ·) K) := ⟨_, _, ok_plus F_plus G_ratio, PySem.W.mg_of X G a_plus, k_plus, b_plus⟩
  have G_times : OwnF l.prog w K mg base "times" 2 ["one", "other"] (sp_two (· * ·) K) := ⟨_, _, ok_times F_times G_ratio, PySem.W.mg_of X G a_times, k_times, b_times⟩
  have G_Line_init : OwnC l.prog w K mg base cs.L "Line" 1 ["self", "pace", "begin"] (sp_Line_init K cs.L) := ⟨_, _, ok_Line_init F_Line_init T_L, PySem.W.mg_of X G aC_L, ⟨mk_L, a_Line_init, i_Line_init, kc_L⟩, b_Line_init⟩
  have G_Line_room : OwnM l.prog w K mg base cs.L "room" 1 ["self"] (sp_Line_room cs.L) := ⟨_, _, ok_Line_room F_Line_room T_L hMOST, C_L, ⟨a_Line_room, i_Line_room, k_Line_room⟩, b_Line_room⟩
  have G_Line_begun : OwnM l.prog w K mg base cs.L "begun" 1 ["self", "beat"] (sp_Line_begun cs.L) := ⟨_, _, ok_Line_begun F_Line_begun T_L, C_L, ⟨a_Line_begun, i_Line_begun, k_Line_begun⟩, b_Line_begun⟩
  have G_spot : OwnF l.prog w K mg base "spot" 1 ["pace", "passed"] sp_spot := ⟨_, _, ok_spot F_spot B, PySem.W.mg_of X G a_spot, k_spot, b_spot⟩
  have G_wanted : OwnF l.prog w K mg base "wanted" 2 ["pace", "passed"] sp_wanted := ⟨_, _, ok_wanted F_wanted G_spot, PySem.W.mg_of X G a_wanted, k_wanted, b_wanted⟩
  have G_Line_wants : OwnM l.prog w K mg base cs.L "wants" 3 ["self", "beat"] (sp_Line_wanted cs.L) := ⟨_, _, ok_Line_wants F_Line_wants T_L G_wanted, C_L, ⟨a_Line_wants, i_Line_wants, k_Line_wants⟩, b_Line_wants⟩
  have G_Line_over : OwnM l.prog w K mg base cs.L "over" 4 ["self", "beat"] (sp_Line_bool cs.L LineS.over) := ⟨_, _, ok_Line_over F_Line_over T_L G_Line_wants, C_L, ⟨a_Line_over, i_Line_over, k_Line_over⟩, b_Line_over⟩
  have G_Line_lacks : OwnM l.prog w K mg base cs.L "lacks" 5 ["self", "beat"] (sp_Line_bool cs.L LineS.lacks) := ⟨_, _, ok_Line_lacks F_Line_lacks T_L B G_Line_begun G_Line_over G_Line_wants, C_L, ⟨a_Line_lacks, i_Line_lacks, k_Line_lacks⟩, b_Line_lacks⟩
  have G_Line_ready : OwnM l.prog w K mg base cs.L "ready" 6 ["self", "beat"] (sp_Line_bool cs.L LineS.ready) := ⟨_, _, ok_Line_ready F_Line_ready G_Line_begun G_Line_over G_Line_lacks, C_L, ⟨a_Line_ready, i_Line_ready, k_Line_ready⟩, b_Line_ready⟩
  have G_Line_value : OwnM l.prog w K mg base cs.L "value" 2 ["self", "beat"] (sp_Line_value cs.L) := ⟨_, _, ok_Line_value F_Line_value T_L G_spot G_ratio, C_L, ⟨a_Line_value, i_Line_value, k_Line_value⟩, b_Line_value⟩
  have G_Line_take : OwnM l.prog w K mg base cs.L "take" 2 ["self", "place", "numbers"] (sp_Line_take K cs.L) := ⟨_, _, ok_Line_take F_Line_take T_L B hMOST G_is_whole G_Line_room, C_L, ⟨a_Line_take, i_Line_take, k_Line_take⟩, b_Line_take⟩
  have G_Line_close : OwnM l.prog w K mg base cs.L "close" 2 ["self", "many"] (sp_Line_close cs.L) := ⟨_, _, ok_Line_close F_Line_close T_L TT G_is_whole, C_L, ⟨a_Line_close, i_Line_close, k_Line_close⟩, b_Line_close⟩
  have G_Loudness_init : OwnC l.prog w K mg base cs.D "Loudness" 2 ["self", "loudness"] (sp_Loudness_init K cs.D) := ⟨_, _, ok_Loudness_init F_Loudness_init T_D TT G_ratio, PySem.W.mg_of X G aC_D, ⟨mk_D, a_Loudness_init, i_Loudness_init, kc_D⟩, b_Loudness_init⟩
  have G_Loudness_lead_on : OwnM l.prog w K mg base cs.D "lead_on" 3 ["self"] (sp_Loudness_lead_on K cs.D) := ⟨_, _, ok_Loudness_lead_on F_Loudness_lead_on T_D G_plus, C_D, ⟨a_Loudness_lead_on, i_Loudness_lead_on, k_Loudness_lead_on⟩, b_Loudness_lead_on⟩
  have G_Voice_fall : OwnM l.prog w K mg base cs.V "fall" 3 ["self", "soft"] (sp_Voice_fall K cs.V) := ⟨_, _, ok_Voice_fall F_Voice_fall T_V TT G_ratio G_times, C_V, ⟨a_Voice_fall, i_Voice_fall, k_Voice_fall⟩, b_Voice_fall⟩
  have G_Voice_rise : OwnM l.prog w K mg base cs.V "rise" 3 ["self", "whole", "soft"] (sp_Voice_rise K cs.V) := ⟨_, _, ok_Voice_rise F_Voice_rise T_V TT G_ratio G_times, C_V, ⟨a_Voice_rise, i_Voice_rise, k_Voice_rise⟩, b_Voice_rise⟩
  have G_Voice_begin_fall : OwnM l.prog w K mg base cs.V "begin_fall" 4 ["self", "soft"] (sp_Voice_begin_fall K cs.V) := ⟨_, _, ok_Voice_begin_fall F_Voice_begin_fall T_V TT G_Voice_fall, C_V, ⟨a_Voice_begin_fall, i_Voice_begin_fall, k_Voice_begin_fall⟩, b_Voice_begin_fall⟩
  have G_Voice_sound : OwnM l.prog w K mg base cs.V "sound" 4 ["self", "whole", "soft"] (sp_Voice_sound K cs.V) := ⟨_, _, ok_Voice_sound F_Voice_sound T_V TT G_Voice_rise, C_V, ⟨a_Voice_sound, i_Voice_sound, k_Voice_sound⟩, b_Voice_sound⟩
  have G_Voice_init : OwnC l.prog w K mg base cs.V "Voice" 4 ["self", "pace", "begin", "loudness"] (sp_Voice_init K cs) := ⟨_, _, ok_Voice_init F_Voice_init T_V TT G_Line_init G_Loudness_init, PySem.W.mg_of X G aC_V, ⟨mk_V, a_Voice_init, i_Voice_init, kc_V⟩, b_Voice_init⟩
  have G_Voice_give : OwnM l.prog w K mg base cs.V "give" 7 ["self", "beat", "soft"] (sp_Voice_give K cs) := ⟨_, _, ok_Voice_give F_Voice_give T_V T_D TT G_Loudness_lead_on G_Line_ready G_Voice_fall G_Line_value G_Voice_sound G_Voice_begin_fall G_times, C_V, ⟨a_Voice_give, i_Voice_give, k_Voice_give⟩, b_Voice_give⟩
  have G_Mixer_init : OwnC l.prog w K mg base cs.M "Mixer" 3 ["self", "soft"] (sp_Mixer_init K cs) := ⟨_, _, ok_Mixer_init F_Mixer_init T_M G_check_soft, PySem.W.mg_of X G aC_M, ⟨mk_M, a_Mixer_init, i_Mixer_init, kc_M⟩, b_Mixer_init⟩
  have G_Mixer_voice_of : OwnM l.prog w K mg base cs.M "voice_of" 3 ["self", "name"] (sp_Mixer_voice_of K cs) := ⟨_, _, ok_Mixer_voice_of F_Mixer_voice_of T_M G_check_name, C_M, ⟨a_Mixer_voice_of, i_Mixer_voice_of, k_Mixer_voice_of⟩, b_Mixer_voice_of⟩
  have G_Mixer_add : OwnM l.prog w K mg base cs.M "add" 6 ["self", "name", "pace", "wait", "loudness"] (sp_Mixer_add K cs) := ⟨_, _, ok_Mixer_add F_Mixer_add T_M G_check_name G_check_pace G_check_wait G_check_loudness G_Voice_init, C_M, ⟨a_Mixer_add, i_Mixer_add, k_Mixer_add⟩, b_Mixer_add⟩
  have G_Mixer_parcel : OwnM l.prog w K mg base cs.M "parcel" 4 ["self", "name", "place", "numbers"] (sp_Mixer_parcel K cs) := ⟨_, _, ok_Mixer_parcel F_Mixer_parcel T_V G_Mixer_voice_of G_Line_take, C_M, ⟨a_Mixer_parcel, i_Mixer_parcel, k_Mixer_parcel⟩, b_Mixer_parcel⟩
  have G_Mixer_end : OwnM l.prog w K mg base cs.M "end" 4 ["self", "name", "many"] (sp_Mixer_end K cs) := ⟨_, _, ok_Mixer_end F_Mixer_end T_V G_Mixer_voice_of G_Line_close, C_M, ⟨a_Mixer_end, i_Mixer_end, k_Mixer_end⟩, b_Mixer_end⟩
  have G_Mixer_beat : OwnM l.prog w K mg base cs.M "beat" 8 ["self"] (sp_Mixer_beat K cs) := ⟨_, _, ok_Mixer_beat F_Mixer_beat T_M T_V TT B G_Line_lacks G_Voice_give G_plus, C_M, ⟨a_Mixer_beat, i_Mixer_beat, k_Mixer_beat⟩, b_Mixer_beat⟩
  have G_Mixer_missed : OwnM l.prog w K mg base cs.M "missed" 1 ["self"] (sp_Mixer_missed K cs) := ⟨_, _, ok_Mixer_missed F_Mixer_missed T_M B, C_M, ⟨a_Mixer_missed, i_Mixer_missed, k_Mixer_missed⟩, b_Mixer_missed⟩
  have G_Mixer_hush : OwnM l.prog w K mg base cs.M "hush" 4 ["self", "name"] (sp_Mixer_heard K cs false) := ⟨_, _, ok_Mixer_hush F_Mixer_hush T_V G_Mixer_voice_of, C_M, ⟨a_Mixer_hush, i_Mixer_hush, k_Mixer_hush⟩, b_Mixer_hush⟩
  have G_law_taken : OwnF l.prog w K mg base "_law_taken" 1 ["_law_row", "_law_many"] (sp_taken K) := ⟨_, _, ok_law_taken F_law_taken B, PySem.W.mg_of X G a_law_taken, k_law_taken, b_law_taken⟩
  have G_law_number : OwnF l.prog w K mg base "_law_number" 2 ["_law_row"] (sp_drawn K (-999) 999) := ⟨_, _, ok_law_number F_law_number G_law_taken, PySem.W.mg_of X G a_law_number, k_law_number, b_law_number⟩
  have G_law_pace : OwnF l.prog w K mg base "_law_pace" 2 ["_law_row"] (sp_law_pace K) := ⟨_, _, ok_law_pace F_law_pace G_law_taken, PySem.W.mg_of X G a_law_pace, k_law_pace, b_law_pace⟩
  have G_law_places : OwnF l.prog w K mg base "_law_places" 1 ["_law_v", "_law_beat"] sp_own_places := ⟨_, _, ok_law_places F_law_places B, PySem.W.mg_of X G a_law_places, k_law_places, b_law_places⟩
  have G_law_is_over : OwnF l.prog w K mg base "_law_is_over" 2 ["_law_v", "_law_beat"] (sp_own_bool LineS.over) := ⟨_, _, ok_law_is_over F_law_is_over B G_law_places, PySem.W.mg_of X G a_law_is_over, k_law_is_over, b_law_is_over⟩
  have G_law_lacks : OwnF l.prog w K mg base "_law_lacks" 3 ["_law_v", "_law_beat"] (sp_own_bool LineS.lacks) := ⟨_, _, ok_law_lacks F_law_lacks B G_law_places G_law_is_over, PySem.W.mg_of X G a_law_lacks, k_law_lacks, b_law_lacks⟩
  have G_alikeD : ∀ n, OwnF l.prog w K mg base "_law_alike" (n + 1) ["_law_found", "_law_due"] (sp_eq K n) := fun n => ⟨_, _, ok_alike_deep F_law_alike B (PySem.W.mg_of X G a_law_alike) k_law_alike b_law_alike n, PySem.W.mg_of X G a_law_alike, k_law_alike, b_law_alike⟩
  exact ok_law B ⟨PySem.W.mg_none_of X G z_min, PySem.W.mg_none_of X G z_set, G_law_taken, G_law_pace, G_law_number, G_law_lacks, G_alikeD 2, G_Mixer_init, G_Mixer_add, G_Mixer_parcel, G_Mixer_end, G_Mixer_hush, G_Mixer_beat, G_Mixer_missed⟩ F_law
theorem walk {l : PySem.W.OpenLaw} {q : Program} {loose : List Str} {XP : (Str → Option Value) → Heap → Prop} {YP : World → Heap → Prop} {d : DefRec} {K : Params → PySem.W.Frag} (hn : l.most = some 63) (hdf : d.params.defaults = [])
    (hY : ∀ (w : World) (h : Heap), YP w h → (K w.params).In h)
    (F : ∀ (w : World) (mg : Str → Option Value) (fa : Addr) (h : Heap), (K w.params).In h → h.Ns mainGlobals mg → mg d.name = some (.ref fa) →
      ∃ fd : FuncData, (∀ (s : Shared) (u : Value), BindsTo s fd ⟨[u], []⟩ [("_law_script", u)]) ∧ ∀ base : Heap, (K w.params).In base → base.Ns mainGlobals mg → FnOk l.prog w (K w.params) mg base CX0 9 fa fd ["_law_script"] (sp_law (K w.params))) :
    PySem.W.WalkO q loose XP YP l.row.toRowW d [] (fun f vs => PySem.call f vs) :=
  L2.walk_of (n := 63) (k := 9) (x := "_law_script") (CX := fun _ => CX0) (sp := fun w => sp_law (K w.params)) hn (by decide) hdf ⟨rfl, by decide, by decide⟩ hY F (fun _ _ a ns hl _ hS => ⟨a, ns, rfl, hS, hl, fun _ => rfl⟩) fun _ _ _ _ _ z => z
end Mx

open PySem PySem.W PyProof.Rows
set_option maxRecDepth 100000 in
set_option maxHeartbeats 0 in
theorem PySem.Challenge.cw_mixserver_k06_whole_missed_is_what_lacks_holds : PySem.Challenge.rw_mixserver_k06_whole_missed_is_what_lacks.Holds := by
  w_on; o_law; k_head; (case hw => w_witness2)
  k_fill
  refine Mx.walk (l := PySem.Challenge.rw_mixserver_k06_whole_missed_is_what_lacks) rfl rfl (fun w h Y => PySem.W.kIn_of Y) ?F
  case F =>
    intro w mg fa h KX G hmg
    refine' Mx.all_mk KX G hmg ?aC_L ?pg_L ?hd_L ?po_L ?sa_L ?mk_L ?kc_L ?nL1 ?nL2 ?nL3 ?nL4 ?nL5 ?aC_D ?pg_D ?hd_D ?po_D ?sa_D ?mk_D ?kc_D ?nD1 ?nD2 ?nD3 ?aC_V ?pg_V ?hd_V ?po_V ?sa_V ?mk_V ?kc_V ?nV1 ?nV2 ?nV3 ?nV4 ?nV5 ?nV6 ?nV7 ?aC_M ?pg_M ?hd_M ?po_M ?sa_M ?mk_M ?kc_M ?nM1 ?nM2 ?nM3 ?nM4 ?a_is_whole ?l_is_whole ?c_is_whole ?k_is_whole ?a_check_soft ?l_check_soft ?c_check_soft ?k_check_soft ?a_check_name ?l_check_name ?c_check_name ?k_check_name ?a_check_pace ?l_check_pace ?c_check_pace ?k_check_pace ?a_check_wait ?l_check_wait ?c_check_wait ?k_check_wait ?a_check_loudness ?l_check_loudness ?c_check_loudness ?k_check_loudness ?a_ratio ?l_ratio ?c_ratio ?k_ratio ?a_plus ?l_plus ?c_plus ?k_plus ?a_times ?l_times ?c_times ?k_times ?a_Line_init ?i_Line_init ?l_Line_init ?c_Line_init ?k_Line_init ?a_Line_room ?i_Line_room ?l_Line_room ?c_Line_room ?k_Line_room ?a_Line_begun ?i_Line_begun ?l_Line_begun ?c_Line_begun ?k_Line_begun ?a_spot ?l_spot ?c_spot ?k_spot ?a_wanted ?l_wanted ?c_wanted ?k_wanted ?a_Line_wants ?i_Line_wants ?l_Line_wants ?c_Line_wants ?k_Line_wants ?a_Line_over ?i_Line_over ?l_Line_over ?c_Line_over ?k_Line_over ?a_Line_lacks ?i_Line_lacks ?l_Line_lacks ?c_Line_lacks ?k_Line_lacks ?a_Line_ready ?i_Line_ready ?l_Line_ready ?c_Line_ready ?k_Line_ready ?a_Line_value ?i_Line_value ?l_Line_value ?c_Line_value ?k_Line_value ?a_Line_take ?i_Line_take ?l_Line_take ?c_Line_take ?k_Line_take ?a_Line_close ?i_Line_close ?l_Line_close ?c_Line_close ?k_Line_close ?a_Loudness_init ?i_Loudness_init ?l_Loudness_init ?c_Loudness_init ?k_Loudness_init ?a_Loudness_lead_on ?i_Loudness_lead_on ?l_Loudness_lead_on ?c_Loudness_lead_on ?k_Loudness_lead_on ?a_Voice_fall ?i_Voice_fall ?l_Voice_fall ?c_Voice_fall ?k_Voice_fall ?a_Voice_rise ?i_Voice_rise ?l_Voice_rise ?c_Voice_rise ?k_Voice_rise ?a_Voice_begin_fall ?i_Voice_begin_fall ?l_Voice_begin_fall ?c_Voice_begin_fall ?k_Voice_begin_fall ?a_Voice_sound ?i_Voice_sound ?l_Voice_sound ?c_Voice_sound ?k_Voice_sound ?a_Voice_init ?i_Voice_init ?l_Voice_init ?c_Voice_init ?k_Voice_init ?a_Voice_give ?i_Voice_give ?l_Voice_give ?c_Voice_give ?k_Voice_give ?a_Mixer_init ?i_Mixer_init ?l_Mixer_init ?c_Mixer_init ?k_Mixer_init ?a_Mixer_voice_of ?i_Mixer_voice_of ?l_Mixer_voice_of ?c_Mixer_voice_of ?k_Mixer_voice_of ?a_Mixer_add ?i_Mixer_add ?l_Mixer_add ?c_Mixer_add ?k_Mixer_add ?a_Mixer_parcel ?i_Mixer_parcel ?l_Mixer_parcel ?c_Mixer_parcel ?k_Mixer_parcel ?a_Mixer_end ?i_Mixer_end ?l_Mixer_end ?c_Mixer_end ?k_Mixer_end ?a_Mixer_beat ?i_Mixer_beat ?l_Mixer_beat ?c_Mixer_beat ?k_Mixer_beat ?a_Mixer_missed ?i_Mixer_missed ?l_Mixer_missed ?c_Mixer_missed ?k_Mixer_missed ?a_Mixer_hush ?i_Mixer_hush ?l_Mixer_hush ?c_Mixer_hush ?k_Mixer_hush ?a_law_taken ?l_law_taken ?c_law_taken ?k_law_taken ?a_law_number ?l_law_number ?c_law_number ?k_law_number ?a_law_pace ?l_law_pace ?c_law_pace ?k_law_pace ?a_law_places ?l_law_places ?c_law_places ?k_law_places ?a_law_is_over ?l_law_is_over ?c_law_is_over ?k_law_is_over ?a_law_lacks ?l_law_lacks ?c_law_lacks ?k_law_lacks ?a_law_alike ?l_law_alike ?c_law_alike ?k_law_alike ?a_law ?l_law ?c_law ?k_law ?z_isinstance ?z_bool ?z_int ?z_tuple ?z_len ?z_all ?z_any ?z_min ?z_max ?z_divmod ?z_enumerate ?z_sorted ?z_list ?z_range ?z_abs ?z_str ?z_set ?z_gcd ?v_MOST ?v_FULL ?v_HUSHED ?v_RISING ?v_ON ?v_FALLING ?v_NOTHING ?l_NOTHING
    (case aC_L => k_is)
    (case pg_L => k_is)
    (case hd_L => k_is)
    (case po_L => k_is)
    (case sa_L => k_is)
    (case mk_L => k_is)
    (case kc_L => k_is)
    (case nL1 => k_is)
    (case nL2 => k_is)
    (case nL3 => k_is)
    (case nL4 => k_is)
    (case nL5 => k_is)
    (case aC_D => k_is)
    (case pg_D => k_is)
    (case hd_D => k_is)
    (case po_D => k_is)
    (case sa_D => k_is)
    (case mk_D => k_is)
    (case kc_D => k_is)
    (case nD1 => k_is)
    (case nD2 => k_is)
    (case nD3 => k_is)
    (case aC_V => k_is)
    (case pg_V => k_is)
    (case hd_V => k_is)
    (case po_V => k_is)
    (case sa_V => k_is)
    (case mk_V => k_is)
    (case kc_V => k_is)
    (case nV1 => k_is)
    (case nV2 => k_is)
    (case nV3 => k_is)
    (case nV4 => k_is)
    (case nV5 => k_is)
    (case nV6 => k_is)
    (case nV7 => k_is)
    (case aC_M => k_is)
    (case pg_M => k_is)
    (case hd_M => k_is)
    (case po_M => k_is)
    (case sa_M => k_is)
    (case mk_M => k_is)
    (case kc_M => k_is)
    (case nM1 => k_is)
    (case nM2 => k_is)
    (case nM3 => k_is)
    (case nM4 => k_is)
    (case a_is_whole => k_is)
    (case l_is_whole => k_is)
    (case c_is_whole => k_is)
    (case k_is_whole => k_is)
    (case a_check_soft => k_is)
    (case l_check_soft => k_is)
    (case c_check_soft => k_is)
    (case k_check_soft => k_is)
    (case a_check_name => k_is)
    (case l_check_name => k_is)
    (case c_check_name => k_is)
    (case k_check_name => k_is)
    (case a_check_pace => k_is)
    (case l_check_pace => k_is)
    (case c_check_pace => k_is)
    (case k_check_pace => k_is)
    (case a_check_wait => k_is)
    (case l_check_wait => k_is)
    (case c_check_wait => k_is)
    (case k_check_wait => k_is)
    (case a_check_loudness => k_is)
    (case l_check_loudness => k_is)
    (case c_check_loudness => k_is)
    (case k_check_loudness => k_is)
    (case a_ratio => k_is)
    (case l_ratio => k_is)
    (case c_ratio => k_is)
    (case k_ratio => k_is)
    (case a_plus => k_is)
    (case l_plus => k_is)
    (case c_plus => k_is)
    (case k_plus => k_is)
    (case a_times => k_is)
    (case l_times => k_is)
    (case c_times => k_is)
    (case k_times => k_is)
    (case a_Line_init => k_is)
    (case i_Line_init => k_is)
    (case l_Line_init => k_is)
    (case c_Line_init => k_is)
    (case k_Line_init => k_is)
    (case a_Line_room => k_is)
    (case i_Line_room => k_is)
    (case l_Line_room => k_is)
    (case c_Line_room => k_is)
    (case k_Line_room => k_is)
    (case a_Line_begun => k_is)
    (case i_Line_begun => k_is)
    (case l_Line_begun => k_is)
    (case c_Line_begun => k_is)
    (case k_Line_begun => k_is)
    (case a_spot => k_is)
    (case l_spot => k_is)
    (case c_spot => k_is)
    (case k_spot => k_is)
    (case a_wanted => k_is)
    (case l_wanted => k_is)
    (case c_wanted => k_is)
    (case k_wanted => k_is)
    (case a_Line_wants => k_is)
    (case i_Line_wants => k_is)
    (case l_Line_wants => k_is)
    (case c_Line_wants => k_is)
    (case k_Line_wants => k_is)
    (case a_Line_over => k_is)
    (case i_Line_over => k_is)
    (case l_Line_over => k_is)
    (case c_Line_over => k_is)
    (case k_Line_over => k_is)
    (case a_Line_lacks => k_is)
    (case i_Line_lacks => k_is)
    (case l_Line_lacks => k_is)
    (case c_Line_lacks => k_is)
    (case k_Line_lacks => k_is)
    (case a_Line_ready => k_is)
    (case i_Line_ready => k_is)
    (case l_Line_ready => k_is)
    (case c_Line_ready => k_is)
    (case k_Line_ready => k_is)
    (case a_Line_value => k_is)
    (case i_Line_value => k_is)
    (case l_Line_value => k_is)
    (case c_Line_value => k_is)
    (case k_Line_value => k_is)
    (case a_Line_take => k_is)
    (case i_Line_take => k_is)
    (case l_Line_take => k_is)
    (case c_Line_take => k_is)
    (case k_Line_take => k_is)
    (case a_Line_close => k_is)
    (case i_Line_close => k_is)
    (case l_Line_close => k_is)
    (case c_Line_close => k_is)
    (case k_Line_close => k_is)
    (case a_Loudness_init => k_is)
    (case i_Loudness_init => k_is)
    (case l_Loudness_init => k_is)
    (case c_Loudness_init => k_is)
    (case k_Loudness_init => k_is)
    (case a_Loudness_lead_on => k_is)
    (case i_Loudness_lead_on => k_is)
    (case l_Loudness_lead_on => k_is)
    (case c_Loudness_lead_on => k_is)
    (case k_Loudness_lead_on => k_is)
    (case a_Voice_fall => k_is)
    (case i_Voice_fall => k_is)
    (case l_Voice_fall => k_is)
    (case c_Voice_fall => k_is)
    (case k_Voice_fall => k_is)
    (case a_Voice_rise => k_is)
    (case i_Voice_rise => k_is)
    (case l_Voice_rise => k_is)
    (case c_Voice_rise => k_is)
    (case k_Voice_rise => k_is)
    (case a_Voice_begin_fall => k_is)
    (case i_Voice_begin_fall => k_is)
    (case l_Voice_begin_fall => k_is)
    (case c_Voice_begin_fall => k_is)
    (case k_Voice_begin_fall => k_is)
    (case a_Voice_sound => k_is)
    (case i_Voice_sound => k_is)
    (case l_Voice_sound => k_is)
    (case c_Voice_sound => k_is)
    (case k_Voice_sound => k_is)
    (case a_Voice_init => k_is)
    (case i_Voice_init => k_is)
    (case l_Voice_init => k_is)
    (case c_Voice_init => k_is)
    (case k_Voice_init => k_is)
    (case a_Voice_give => k_is)
    (case i_Voice_give => k_is)
    (case l_Voice_give => k_is)
    (case c_Voice_give => k_is)
    (case k_Voice_give => k_is)
    (case a_Mixer_init => k_is)
    (case i_Mixer_init => k_is)
    (case l_Mixer_init => k_is)
    (case c_Mixer_init => k_is)
    (case k_Mixer_init => k_is)
    (case a_Mixer_voice_of => k_is)
    (case i_Mixer_voice_of => k_is)
    (case l_Mixer_voice_of => k_is)
    (case c_Mixer_voice_of => k_is)
    (case k_Mixer_voice_of => k_is)
    (case a_Mixer_add => k_is)
    (case i_Mixer_add => k_is)
    (case l_Mixer_add => k_is)
    (case c_Mixer_add => k_is)
    (case k_Mixer_add => k_is)
    (case a_Mixer_parcel => k_is)
    (case i_Mixer_parcel => k_is)
    (case l_Mixer_parcel => k_is)
    (case c_Mixer_parcel => k_is)
    (case k_Mixer_parcel => k_is)
    (case a_Mixer_end => k_is)
    (case i_Mixer_end => k_is)
    (case l_Mixer_end => k_is)
    (case c_Mixer_end => k_is)
    (case k_Mixer_end => k_is)
    (case a_Mixer_beat => k_is)
    (case i_Mixer_beat => k_is)
    (case l_Mixer_beat => k_is)
    (case c_Mixer_beat => k_is)
    (case k_Mixer_beat => k_is)
    (case a_Mixer_missed => k_is)
    (case i_Mixer_missed => k_is)
    (case l_Mixer_missed => k_is)
    (case c_Mixer_missed => k_is)
    (case k_Mixer_missed => k_is)
    (case a_Mixer_hush => k_is)
    (case i_Mixer_hush => k_is)
    (case l_Mixer_hush => k_is)
    (case c_Mixer_hush => k_is)
    (case k_Mixer_hush => k_is)
    (case a_law_taken => k_is)
    (case l_law_taken => k_is)
    (case c_law_taken => k_is)
    (case k_law_taken => k_is)
    (case a_law_number => k_is)
    (case l_law_number => k_is)
    (case c_law_number => k_is)
    (case k_law_number => k_is)
    (case a_law_pace => k_is)
    (case l_law_pace => k_is)
    (case c_law_pace => k_is)
    (case k_law_pace => k_is)
    (case a_law_places => k_is)
    (case l_law_places => k_is)
    (case c_law_places => k_is)
    (case k_law_places => k_is)
    (case a_law_is_over => k_is)
    (case l_law_is_over => k_is)
    (case c_law_is_over => k_is)
    (case k_law_is_over => k_is)
    (case a_law_lacks => k_is)
    (case l_law_lacks => k_is)
    (case c_law_lacks => k_is)
    (case k_law_lacks => k_is)
    (case a_law_alike => k_is)
    (case l_law_alike => k_is)
    (case c_law_alike => k_is)
    (case k_law_alike => k_is)
    (case a_law => k_is)
    (case l_law => k_is)
    (case c_law => k_is)
    (case k_law => k_is)
    (case z_isinstance => k_is)
    (case z_bool => k_is)
    (case z_int => k_is)
    (case z_tuple => k_is)
    (case z_len => k_is)
    (case z_all => k_is)
    (case z_any => k_is)
    (case z_min => k_is)
    (case z_max => k_is)
    (case z_divmod => k_is)
    (case z_enumerate => k_is)
    (case z_sorted => k_is)
    (case z_list => k_is)
    (case z_range => k_is)
    (case z_abs => k_is)
    (case z_str => k_is)
    (case z_set => k_is)
    (case z_gcd => k_is)
    (case v_MOST => k_is)
    (case v_FULL => k_is)
    (case v_HUSHED => k_is)
    (case v_RISING => k_is)
    (case v_ON => k_is)
    (case v_FALLING => k_is)
    (case v_NOTHING => k_is)
    (case l_NOTHING => k_is)
#print axioms PySem.Challenge.cw_mixserver_k06_whole_missed_is_what_lacks_holds

