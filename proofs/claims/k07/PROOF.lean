import PyProof.Rows.All
import Wide.All
import OpenK.AllK
import Wide.FinOn
import KE.KStateDown
import HandS.ForMost
import HandS.Evl
import HandS.WordsExc
import HandS.Defaults
import HandS.More
import HandS.Wide
import HandS.IsInst
import HandS.Zip
import HandS.SortInts
import HandS.TupMul
import HandS.TupLe
import HandS.TupAny
import HandS.Conv
import HandS.Style
import HandS.Walk
import KE.GoesMore
import KE.GoesZip
import KE.GoesEnum
import HandS.Head0
import HandS.Head1
import HandS.Head2
import HandS.HeadEnd
import HandS.HeadHook1
import HandS.HeadHook2
import HandS.HeadHook3
import HandS.HeadHook4
import HandS.HeadWalk
import HandS.Deep
import HandS.TryOnly
import HandS.Exc
import HandS.ExcOwn
import HandS.ExcSuper
import HandS.ForSpec
import Open.SpecLaws
import KE.OsGo
import HandS.Small
import HandS.FStr
import HandS.ExcIs
import HandS.Lambda
import HandS.NestedK
import HandS.Nested
import HandS.ClsMeth
import KE.KSuper
import HandS.NoneIn
import HandS.DictComp
import HandS.SortKw
import HandS.SortRule
import KE.KSortTup
import HandS.Iter
import HandS.SetFor
import HandS.Strs
import HandS.TupSets
import KE.KDictZip
import HandS.Flow
import PySem.Challenge.RW_overlayhall_k07_whole_other_trees_say_th
set_option Elab.async false
set_option linter.all false
set_option maxRecDepth 100000
set_option maxHeartbeats 0
/-! ### what all laws share: the drawer, data -/
namespace Ov
open PySem PySem.Spec PyProof.Rows L2
/-- the drawer: its list at h, its cells at c -/
def Dr (H : Hp) (h c : Addr) : Prop := ∃ (m k : Int) (xs : List Int), H h = some (.lst [.int m, .ref c, .int k]) ∧ H c = some (.lst (xs.map V.int)) ∧ xs.length ≤ 63
/-- all but the drawer stays -/
def But (h c : Addr) (H H' : Hp) : Prop := ∀ a o, a ≠ h → a ≠ c → H a = some o → H' a = some o
theorem But.refl {h c : Addr} (H : Hp) : But h c H H := fun _ _ _ _ e => e
theorem But.trans {h c : Addr} {H H1 H2 : Hp} (a : But h c H H1) (b : But h c H1 H2) : But h c H H2 := fun x o n1 n2 e => b x o n1 n2 (a x o n1 n2 e)
theorem But.same {h c : Addr} {H H' : Hp} (a : Same H H') : But h c H H' := fun x o _ _ e => a x o e
theorem Same.new {H : Hp} {p : Addr} {o : HO} (h : H p = none) : Same H (upd H p o) := fun b u q => by rw [upd_ne (ne_of_none q h)]; exact q
theorem But.new {h c : Addr} {H : Hp} {p : Addr} {o : HO} (e : H p = none) : But h c H (upd H p o) := .same (Same.new e)
theorem But.updh {h c : Addr} {H : Hp} {o : HO} : But h c H (upd H h o) := fun x u n1 _ e => by rw [upd_ne n1]; exact e
theorem But.updc {h c : Addr} {H : Hp} {o : HO} : But h c H (upd H c o) := fun x u _ n2 e => by rw [upd_ne n2]; exact e
theorem But.tup {h c a : Addr} {H H' : Hp} {xs : List V} (b : But h c H H') (d : Dr H h c) (e : H a = some (.tup xs)) : H' a = some (.tup xs) := by
  obtain ⟨m, k, ns, h1, h2, _⟩ := d
  exact b a _ (ne_of e h1 (by intro z; cases z)) (ne_of e h2 (by intro z; cases z)) e
theorem Dr.same {h c : Addr} {H H' : Hp} (d : Dr H h c) (e : Same H H') : Dr H' h c := by
  obtain ⟨m, k, ns, h1, h2, h3⟩ := d
  exact ⟨m, k, ns, e _ _ h1, e _ _ h2, h3⟩
theorem But.updn {h c D : Addr} {H H' : Hp} {o : HO} (b : But h c H H') (hD : H D = none) : But h c H (upd H' D o) := fun a u n1 n2 e => by rw [upd_ne (ne_of_none e hD)]; exact b a u n1 n2 e
theorem Same.updn {D : Addr} {H H' : Hp} {o : HO} (b : Same H H') (hD : H D = none) : Same H (upd H' D o) := fun a u e => by rw [upd_ne (ne_of_none e hD)]; exact b a u e
theorem Dr.upd {h c D : Addr} {H : Hp} {o : HO} (d : Dr H h c) (n1 : D ≠ h) (n2 : D ≠ c) : Dr (upd H D o) h c := by
  obtain ⟨m, k, ns, h1, h2, h3⟩ := d
  exact ⟨m, k, ns, by rw [upd_ne n1.symm]; exact h1, by rw [upd_ne n2.symm]; exact h2, h3⟩
theorem Dr.ne {h c : Addr} {H : Hp} (d : Dr H h c) : h ≠ c := by
  obtain ⟨m, k, ns, h1, h2, _⟩ := d
  refine ne_of h1 h2 (fun z => ?_)
  have z1 : [V.int m, .ref c, .int k] = ns.map V.int := by injection z
  have z2 := congrArg (fun l : List V => l[1]?) z1
  have z3 : some (V.ref c) = (ns.map V.int)[1]? := z2
  rw [List.getElem?_map] at z3
  cases q : ns[1]? with
  | none => rw [q] at z3; cases z3
  | some u => rw [q] at z3; cases z3
/-- a draw: one of n -/
def spNext : Sp := fun vs H Q _ => ∃ (h c : Addr) (n : Int), vs = [.ref h, .int n] ∧ Dr H h c ∧ 0 < n ∧ n ≤ 1000000 ∧ ∀ (r : Int) (H' : Hp), 0 ≤ r → r < n → But h c H H' → Dr H' h c → Q (.int r) H'
/-- the drawer is made of the script -/
def spMix (K : PySem.W.Frag) : Sp := fun vs H Q _ => ∃ (a : Addr) (ns : List Int) (z : Int), vs = [.ref a, .int z] ∧ SqL K H a (ns.map V.int) ∧ ns.length ≤ 63 ∧ -(2 ^ 31) < z ∧ z < 2 ^ 31 ∧ ∀ (h c : Addr) (H' : Hp), H h = none → H c = none → Same H H' → Dr H' h c → Q (.ref h) H'
/-! ### rules with the written part told (within a comprehension) -/
section
variable {X : Cx} {K : PySem.W.Frag}
theorem pi_listK {tg l : Expr} {tl : TE} (hK : X.K = K) (hl : PE X l tl) : PI X tg l (iList K tl) := by subst hK; exact pi_list hl
theorem pi_tupK {tg l : Expr} {tl : TE} (hK : X.K = K) (hl : PE X l tl) : PI X tg l (iTup K tl) := by subst hK; exact pi_tup hl
theorem pg_tupK {es : List Expr} {k : Nat} {pos : Pos} {t : TGs} {n : Nat} (hK : X.K = K) (hc : X.calm = true) (h : PGs X es t)
    (hn : (assignEach es X.env).length = n := by rfl) (hst : (assignEach es X.env).findIdx? (·.1) = none := by rfl) : PG X (.Tuple es k pos) (gTup K n t) := by subst hK; exact pg_tup hc h hn hst
theorem pe_bmK {o e : Expr} {es : List Expr} {to : TE} {t : TA} {name : Str} {apos cpos : Pos} {T id : String} {r : V → List V → Hp → VK → Prop} (hK : X.K = K) (pa : PlainAttrs T) (slot : Slot T name id) (hty : typeOf (.builtin id) = pure (.type "method_descriptor")) (hm : MtR X id r) (ho : PE X o to) (ha : PA X (e :: es) t)
    (hbase : attributeBase o name X.env (eval o X.env) = eval o X.env := by rfl)
    (hfew : ((backTo cpos (starEach (e :: es) X.env)).all (fun x => !x.1) && (backToKw cpos (keywordEach [] X.env)).all (fun x => x.1.isSome)
      && decide ((e :: es).length + ([] : List Keyword).length + (if ([] : List Keyword).isEmpty then 0 else 1) < 30)) = true := by rfl)
    (hline : (apos.endLine == cpos.line) = true := by rfl) (hs : starEach (e :: es) X.env = (false, eval e X.env) :: starEach es X.env := by rfl) (hplain : (backTo cpos (starEach es X.env)).any (·.1) = false := by rfl) : PE X (.Call (.Attribute o name apos) (e :: es) [] cpos) (tBM K T r to t) := by subst hK; exact pe_bm pa slot hty hm ho ha hbase hfew hline hs hplain
theorem pe_revLK {e : Expr} {te : TE} {k : Nat} {p1 p2 p3 pos : Pos} (hK : X.K = K) (he : PE X e te) : PE X (.Subscript e (.Slice none none (some (.UnaryOp .USub (.Constant (.int 1) k p1) p2)) p3) pos) (tRevL K te) := by subst hK; exact pe_revL he
end
/-- what can't be asked -/
theorem fn0 {P : Program} {w : World} {K : PySem.W.Frag} {mg : Str → Option Value} {base : Heap} {k : Nat} {f : Addr} {fd : FuncData} {ps : List Str} {sp : Sp} (no : ∀ vs H Q E, ¬ sp vs H Q E) : FnOk P w K mg base CX0 k f fd ps sp :=
  ⟨fun vs H Q E h => absurd h (no vs H Q E), fun A outer s H args us vs Q E _ _ _ _ h => absurd h (no vs H Q E)⟩
/-- a promise for each i is a promise of some i -/
theorem fn_ex {ι : Type} {P : Program} {w : World} {K : PySem.W.Frag} {mg : Str → Option Value} {base : Heap} {CX : CXT} {k : ι → Nat} {m : Nat} {f : Addr} {fd : FuncData} {ps : List Str} {sp : ι → Sp} (h : ∀ i, FnOk P w K mg base CX (k i) f fd ps (sp i)) (le : ∀ i, k i ≤ m) :
    FnOk P w K mg base CX m f fd ps (fun vs H Q E => ∃ i, sp i vs H Q E) :=
  ⟨fun vs H Q E ⟨i, x⟩ => (h i).len vs H Q E x, fun A outer s H args us vs Q E hr h1 h2 h3 ⟨i, x⟩ => (h i).run A outer s H args us vs Q E (hr.mono (le i)) h1 h2 h3 x⟩
/-! ### comprehensions without a test -/
theorem lc_rangeY {lo : Int} {n : Nat} {g : TG} {te : TE} {vs : List Nat} {σ : L2.St} {H1 : Hp} {D : Addr} {Qd : Hp → Prop} (Pv : Nat → Hp → Prop) (h0 : Pv 0 (upd H1 D (.lst [])))
    (hs : ∀ i H, i < n → Pv i H → g (.int (lo + i)) (wipe σ vs) H fun σ2 H2 => wipe σ2 vs = wipe σ vs ∧ te σ2 H2 fun y H4 => ∃ acc, H4 D = some (.lst acc) ∧ acc.length < sizeLine ∧ Pv (i + 1) (upd H4 D (.lst (acc ++ [y])))) (hd : ∀ H, Pv n H → Qd H) :
    ∃ W : Nat → Nat → Hp → Prop, (∃ m, W 0 m (upd H1 D (.lst []))) ∧ ∀ i m H, W i m H →
      ((Itr lo n).stop i H ∧ Qd H) ∨ ((Itr lo n).go i H ∧ ∃ Nx : Hp → Prop, (∀ H', Nx H' → ∃ m', m' < m ∧ W (i + 1) m' H') ∧ ∀ x H', (Itr lo n).yld i H x H' → g x (wipe σ vs) H' fun σ2 H2 => wipe σ2 vs = wipe σ vs ∧ tYes σ2 H2 fun b H3 =>
        if b = true then te σ2 H3 fun y H4 => ∃ acc, H4 D = some (.lst acc) ∧ acc.length < sizeLine ∧ Nx (upd H4 D (.lst (acc ++ [y]))) else Nx H3) := lc_range (tt := tYes) Pv h0 hs hd
theorem lc_listY {K : PySem.W.Frag} {a : Addr} {xs : List V} {g : TG} {te : TE} {vs : List Nat} {σ : L2.St} {H1 : Hp} {D : Addr} {Qd : Hp → Prop} (Pv : Nat → Hp → Prop) (h0 : Pv 0 (upd H1 D (.lst []))) (hl : ∀ i H, i ≤ xs.length → Pv i H → SqL K H a xs)
    (hs : ∀ i x H, xs[i]? = some x → Pv i H → g x (wipe σ vs) H fun σ2 H2 => wipe σ2 vs = wipe σ vs ∧ te σ2 H2 fun y H4 => ∃ acc, H4 D = some (.lst acc) ∧ acc.length < sizeLine ∧ Pv (i + 1) (upd H4 D (.lst (acc ++ [y])))) (hd : ∀ H, Pv xs.length H → Qd H) :
    ∃ W : Nat → Nat → Hp → Prop, (∃ m, W 0 m (upd H1 D (.lst []))) ∧ ∀ i m H, W i m H →
      ((Itl K a).stop i H ∧ Qd H) ∨ ((Itl K a).go i H ∧ ∃ Nx : Hp → Prop, (∀ H', Nx H' → ∃ m', m' < m ∧ W (i + 1) m' H') ∧ ∀ x H', (Itl K a).yld i H x H' → g x (wipe σ vs) H' fun σ2 H2 => wipe σ2 vs = wipe σ vs ∧ tYes σ2 H2 fun b H3 =>
        if b = true then te σ2 H3 fun y H4 => ∃ acc, H4 D = some (.lst acc) ∧ acc.length < sizeLine ∧ Nx (upd H4 D (.lst (acc ++ [y]))) else Nx H3) := lc_list (tt := tYes) Pv h0 hl hs hd
theorem lc_tupY {K : PySem.W.Frag} {a : Addr} {xs : List V} {g : TG} {te : TE} {vs : List Nat} {σ : L2.St} {H1 : Hp} {D : Addr} {Qd : Hp → Prop} (Pv : Nat → Hp → Prop) (h0 : Pv 0 (upd H1 D (.lst []))) (hl : ∀ i H, i ≤ xs.length → Pv i H → SqT K H a xs)
    (hs : ∀ i x H, xs[i]? = some x → Pv i H → g x (wipe σ vs) H fun σ2 H2 => wipe σ2 vs = wipe σ vs ∧ te σ2 H2 fun y H4 => ∃ acc, H4 D = some (.lst acc) ∧ acc.length < sizeLine ∧ Pv (i + 1) (upd H4 D (.lst (acc ++ [y])))) (hd : ∀ H, Pv xs.length H → Qd H) :
    ∃ W : Nat → Nat → Hp → Prop, (∃ m, W 0 m (upd H1 D (.lst []))) ∧ ∀ i m H, W i m H →
      ((Itt K a).stop i H ∧ Qd H) ∨ ((Itt K a).go i H ∧ ∃ Nx : Hp → Prop, (∀ H', Nx H' → ∃ m', m' < m ∧ W (i + 1) m' H') ∧ ∀ x H', (Itt K a).yld i H x H' → g x (wipe σ vs) H' fun σ2 H2 => wipe σ2 vs = wipe σ vs ∧ tYes σ2 H2 fun b H3 =>
        if b = true then te σ2 H3 fun y H4 => ∃ acc, H4 D = some (.lst acc) ∧ acc.length < sizeLine ∧ Nx (upd H4 D (.lst (acc ++ [y]))) else Nx H3) := lc_tup (tt := tYes) Pv h0 hl hs hd
def rTupS (K : PySem.W.Frag) : List V → Hp → VK → Prop := fun xs H Q => ∃ p ys, xs = [.ref p] ∧ ((SqL K H p ys ∧ ∀ l, H l = none → Q (.ref l) (upd H l (.tup ys))) ∨ (SqT K H p ys ∧ Q (.ref p) H))
def rInKd (K : PySem.W.Frag) (d : Addr) (neg : Bool) : V → V → Hp → VK → Prop := fun x y H Q => ∃ (z : Str) (r : Option Value), x = .str z ∧ y = .ref d ∧ PySem.W.nsIn K d z = some r ∧ Q (.bl (if neg then !r.isSome else r.isSome)) H
theorem sm (n : Nat) (h : n ≤ 1000 := by omega) : n < sizeLine := Nat.lt_of_le_of_lt h (by decide)
theorem sml (n : Nat) (h : n ≤ 1000 := by omega) : n ≤ sizeLine := Nat.le_of_lt (sm n h)
theorem dpInts {K : PySem.W.Frag} {H : Hp} : ∀ ns : List Int, DpAll K H (ns.map V.int) (ns.map PyData.int)
  | [] => .nil
  | n :: ns => .cons (.int n) (dpInts ns)
theorem intsDepth : ∀ ns : List Int, PyData.depthAll (ns.map PyData.int) = 0
  | [] => by simp [PyData.depthAll]
  | n :: ns => by simp [PyData.depthAll, PyData.depth, intsDepth ns]
theorem intsLay : ∀ ns : List Int, PyData.canLayAll0 (ns.map PyData.int) = true
  | [] => by simp [PyData.canLayAll0]
  | n :: ns => by simp [PyData.canLayAll0, PyData.canLay0, intsLay ns]
theorem intsShaped (ns : List Int) : SeqAt.shaped (.list (ns.map PyData.int)) = true := by
  show (PyData.canLay0 (.list (ns.map PyData.int)) && decide (PyData.depth (.list (ns.map PyData.int)) ≤ 64)) = true
  rw [Bool.and_eq_true]
  refine ⟨by simp only [PyData.canLay0]; exact intsLay ns, decide_eq_true ?_⟩
  simp only [PyData.depth]
  rw [intsDepth]
  omega
theorem eqvNil (ns : List Int) : PyData.eqv (.list (ns.map PyData.int)) (.list []) = ns.isEmpty := by
  cases ns with
  | nil => simp [PyData.eqv, PyData.eqvAll]
  | cons n ns => simp [PyData.eqv, PyData.eqvAll]
theorem k_tuple_tuple {K : PySem.W.Frag} : PySem.W.kitOne K (.type "tuple") (.type "tuple") = some true := kit_ty (by decide +kernel)
theorem k_int_tuple {K : PySem.W.Frag} : PySem.W.kitOne K (.type "int") (.type "tuple") = some false := kit_ty (by decide +kernel)
theorem k_int_int {K : PySem.W.Frag} : PySem.W.kitOne K (.type "int") (.type "int") = some true := kit_ty (by decide +kernel)
theorem k_int_bool {K : PySem.W.Frag} : PySem.W.kitOne K (.type "int") (.type "bool") = some false := kit_ty (by decide +kernel)
theorem k_str_tuple {K : PySem.W.Frag} : PySem.W.kitOne K (.type "str") (.type "tuple") = some false := kit_ty (by decide +kernel)
theorem k_str_str {K : PySem.W.Frag} : PySem.W.kitOne K (.type "str") (.type "str") = some true := kit_ty (by decide +kernel)
end Ov

/-! ### bodies as data -/
namespace Ov
open PySem PySem.Spec PyProof.Rows L2
inductive Op where
  | num | arg | way | plus | less | times | ife | thn | say | call | through
  deriving DecidableEq
def Op.name : Op → Str
  | .num => "num" | .arg => "argument" | .way => "way" | .plus => "plus" | .less => "less" | .times => "times" | .ife => "if" | .thn => "then" | .say => "say" | .call => "call" | .through => "through"
def Op.arity : Op → Nat
  | .num => 0 | .arg => 0 | .way => 0 | .plus => 2 | .less => 2 | .times => 2 | .ife => 3 | .thn => 2 | .say => 1 | .call => 1 | .through => 2
def Op.gives : Op → Bool
  | .num => true | .way => true | .call => true | _ => false
def Op.pre (o : Op) (g : Int) : List V := if o.gives then [.int g] else []
def Op.fits (n : Nat) : Op → Int → Prop
  | .num, g => 0 ≤ g ∧ g ≤ 99
  | .way, g => 0 ≤ g ∧ g < n
  | .call, g => 0 ≤ g ∧ g < n
  | _, _ => True
/-- a word and what is within it -/
inductive W where
  | mk (o : Op) (g : Int) (as : List W)
def W.g : W → Int
  | .mk _ g _ => g
def W.as : W → List W
  | .mk _ _ as => as
mutual
def W.size : W → Nat
  | .mk _ _ as => 1 + W.sizes as
def W.sizes : List W → Nat
  | [] => 0
  | w :: ws => w.size + W.sizes ws
end
/-- words of n functions, at most d within one another -/
inductive WOk (n : Nat) : Nat → W → Prop
  | mk {d : Nat} {o : Op} {g : Int} {as : List W} : as.length = o.arity → o.fits n g → (∀ a ∈ as, WOk n d a) → WOk n (d + 1) (.mk o g as)
theorem WOk.mono {n d e : Nat} {w : W} (h : WOk n d w) : d ≤ e → WOk n e w := by
  induction h generalizing e with
  | @mk d o g as h1 h2 _ ih =>
    intro le
    obtain ⟨f, rfl⟩ : ∃ f, e = f + 1 := ⟨e - 1, by omega⟩
    exact .mk h1 h2 fun a ha => ih a ha (by omega)
mutual
/-- the word w stands at v -/
inductive WAt (H : Hp) : V → W → Prop
  | mk {a : Addr} {o : Op} {g : Int} {vs : List V} {as : List W} : H a = some (.tup (.str o.name :: (o.pre g ++ vs))) → WsAt H vs as → WAt H (.ref a) (.mk o g as)
inductive WsAt (H : Hp) : List V → List W → Prop
  | nil : WsAt H [] []
  | cons {v : V} {vs : List V} {w : W} {ws : List W} : WAt H v w → WsAt H vs ws → WsAt H (v :: vs) (w :: ws)
end
/-- tuples stay -/
def Keep (H H' : Hp) : Prop := ∀ a xs, H a = some (.tup xs) → H' a = some (.tup xs)
theorem Keep.refl (H : Hp) : Keep H H := fun _ _ e => e
theorem Keep.trans {H H1 H2 : Hp} (a : Keep H H1) (b : Keep H1 H2) : Keep H H2 := fun x o e => b x o (a x o e)
theorem Keep.same {H H' : Hp} (e : Same H H') : Keep H H' := fun a xs h => e a _ h
theorem Keep.but {h c : Addr} {H H' : Hp} (b : But h c H H') (d : Dr H h c) : Keep H H' := fun _ _ e => b.tup d e
theorem Keep.updL {H : Hp} {a : Addr} {xs ys : List V} (e : H a = some (.lst xs)) : Keep H (upd H a (.lst ys)) := fun b zs h => by
  rw [upd_ne (ne_of h e (by intro z; cases z))]
  exact h
mutual
theorem WAt.keep {H H' : Hp} (k : Keep H H') : ∀ {v : V} {w : W}, WAt H v w → WAt H' v w
  | _, _, .mk h r => .mk (k _ _ h) (WsAt.keep k r)
theorem WsAt.keep {H H' : Hp} (k : Keep H H') : ∀ {vs : List V} {ws : List W}, WsAt H vs ws → WsAt H' vs ws
  | _, _, .nil => .nil
  | _, _, .cons h r => .cons (h.keep k) (WsAt.keep k r)
end
theorem WsAt.length {H : Hp} : ∀ {vs : List V} {ws : List W}, WsAt H vs ws → vs.length = ws.length
  | _, _, .nil => rfl
  | _, _, .cons _ r => congrArg Nat.succ (WsAt.length r)
theorem WsAt.get {H : Hp} : ∀ {vs : List V} {ws : List W} {i : Nat} {v : V}, WsAt H vs ws → vs[i]? = some v → ∃ w, ws[i]? = some w ∧ WAt H v w
  | _, _, _, _, .nil, e => by simp at e
  | _, _, 0, _, .cons h r, e => by
    have e2 := Option.some.inj e
    subst e2
    exact ⟨_, rfl, h⟩
  | _, _, i + 1, v, .cons _ r, e => WsAt.get (i := i) (v := v) r e
theorem WAt.ref {H : Hp} {v : V} {w : W} (h : WAt H v w) : ∃ b xs, v = .ref b ∧ H b = some (.tup xs) := by
  cases h with
  | mk h _ => exact ⟨_, _, rfl, h⟩
theorem W.size_mk (o : Op) (g : Int) (as : List W) : (W.mk o g as).size = 1 + W.sizes as := by rw [W.size]
theorem W.sizes_sum : ∀ ws : List W, ((W.sizes ws : Nat) : Int) = (ws.map fun z => (z.size : Int)).sum
  | [] => by unfold W.sizes; rfl
  | w :: ws => by
    have ih := W.sizes_sum ws
    unfold W.sizes
    rw [List.map_cons, List.sum_cons]
    omega
/-- a word of n functions, d deep, at v -/
def Wd (H : Hp) (n d : Nat) (v : V) : Prop := ∃ w, WAt H v w ∧ WOk n d w
theorem Wd.keep {H H' : Hp} {n d : Nat} {v : V} (k : Keep H H') (h : Wd H n d v) : Wd H' n d v := by
  obtain ⟨w, h1, h2⟩ := h
  exact ⟨w, h1.keep k, h2⟩
theorem Wd.mono {H : Hp} {n d e : Nat} {v : V} (h : Wd H n d v) (le : d ≤ e) : Wd H n e v := by
  obtain ⟨w, h1, h2⟩ := h
  exact ⟨w, h1, h2.mono le⟩
theorem wd0 {H : Hp} {n d : Nat} {a : Addr} (o : Op) (g : Int) (e : H a = some (.tup (.str o.name :: (o.pre g ++ [])))) (f : o.fits n g) (ha : o.arity = 0 := by rfl) : Wd H n (d + 1) (.ref a) :=
  ⟨.mk o g [], .mk e .nil, .mk ha.symm f (fun _ h => by cases h)⟩
theorem wd1 {H : Hp} {n d : Nat} {a : Addr} {x : V} (o : Op) (g : Int) (e : H a = some (.tup (.str o.name :: (o.pre g ++ [x])))) (f : o.fits n g) (hx : Wd H n d x) (ha : o.arity = 1 := by rfl) : Wd H n (d + 1) (.ref a) := by
  obtain ⟨w, h1, h2⟩ := hx
  exact ⟨.mk o g [w], .mk e (.cons h1 .nil), .mk ha.symm f (fun z h => by
    rcases List.mem_singleton.mp h with rfl
    exact h2)⟩
theorem wd2 {H : Hp} {n d : Nat} {a : Addr} {x y : V} (o : Op) (g : Int) (e : H a = some (.tup (.str o.name :: (o.pre g ++ [x, y])))) (f : o.fits n g) (hx : Wd H n d x) (hy : Wd H n d y) (ha : o.arity = 2 := by rfl) : Wd H n (d + 1) (.ref a) := by
  obtain ⟨w, h1, h2⟩ := hx
  obtain ⟨u, h3, h4⟩ := hy
  exact ⟨.mk o g [w, u], .mk e (.cons h1 (.cons h3 .nil)), .mk ha.symm f (fun z h => by
    simp only [List.mem_cons, List.mem_nil_iff, or_false] at h
    rcases h with rfl | rfl
    · exact h2
    · exact h4)⟩
theorem wd3 {H : Hp} {n d : Nat} {a : Addr} {x y z : V} (o : Op) (g : Int) (e : H a = some (.tup (.str o.name :: (o.pre g ++ [x, y, z])))) (f : o.fits n g) (hx : Wd H n d x) (hy : Wd H n d y) (hz : Wd H n d z) (ha : o.arity = 3 := by rfl) : Wd H n (d + 1) (.ref a) := by
  obtain ⟨w, h1, h2⟩ := hx
  obtain ⟨u, h3, h4⟩ := hy
  obtain ⟨q, h5, h6⟩ := hz
  exact ⟨.mk o g [w, u, q], .mk e (.cons h1 (.cons h3 (.cons h5 .nil))), .mk ha.symm f (fun r h => by
    simp only [List.mem_cons, List.mem_nil_iff, or_false] at h
    rcases h with rfl | rfl | rfl
    · exact h2
    · exact h4
    · exact h6)⟩
/-! ### what a body is drawn by -/
def KindS (k : Str) : Prop := k = "number" ∨ k = "way"
structure EnvAt (H : Hp) (h c e : Addr) (n : Nat) (came : Str) (pl kl : Addr) (ps : List Int) (ks : List Str) : Prop where
  e : H e = some (.dK [(.inr "came", .str came), (.inr "plain", .ref pl), (.inr "kinds", .ref kl)])
  ck : KindS came
  p : H pl = some (.lst (ps.map V.int))
  p0 : ps ≠ []
  p8 : ps.length ≤ 8
  pn : ∀ x ∈ ps, 0 ≤ x ∧ x < n
  k : H kl = some (.lst (ks.map V.str))
  kn : ks.length = n
  n1 : 1 ≤ n
  n8 : n ≤ 8
  kk : ∀ x ∈ ks, KindS x
  ph : pl ≠ h
  pc : pl ≠ c
  kh : kl ≠ h
  kc : kl ≠ c
theorem EnvAt.but {H H' : Hp} {h c e : Addr} {n : Nat} {came : Str} {pl kl : Addr} {ps : List Int} {ks : List Str} (x : EnvAt H h c e n came pl kl ps ks) (d : Dr H h c) (b : But h c H H') : EnvAt H' h c e n came pl kl ps ks := by
  obtain ⟨m, k, ns, h1, h2, _⟩ := d
  exact { x with
    e := b _ _ (ne_of x.e h1 (by intro z; cases z)) (ne_of x.e h2 (by intro z; cases z)) x.e
    p := b _ _ x.ph x.pc x.p
    k := b _ _ x.kh x.kc x.k }
theorem EnvAt.same {H H' : Hp} {h c e : Addr} {n : Nat} {came : Str} {pl kl : Addr} {ps : List Int} {ks : List Str} (x : EnvAt H h c e n came pl kl ps ks) (b : Same H H') : EnvAt H' h c e n came pl kl ps ks :=
  { x with
    e := b _ _ x.e
    p := b _ _ x.p
    k := b _ _ x.k }
theorem kind_at {ks : List Str} (hk : ∀ x ∈ ks, KindS x) {r : Int} (h0 : 0 ≤ r) (h1 : r < ks.length) : ∃ k, KindS k ∧ atI (ks.map V.str) r = some (.str k) := by
  obtain ⟨j, rfl⟩ : ∃ j : Nat, r = (j : Int) := ⟨r.toNat, by omega⟩
  have hl : j < ks.length := by omega
  refine ⟨ks[j], hk _ (List.getElem_mem hl), ?_⟩
  exact atI_nat (by rw [List.getElem?_map, List.getElem?_eq_getElem hl]; rfl)
theorem int_at {ps : List Int} {P : Int → Prop} (hk : ∀ x ∈ ps, P x) {r : Int} (h0 : 0 ≤ r) (h1 : r < ps.length) : ∃ k, P k ∧ atI (ps.map V.int) r = some (.int k) := by
  obtain ⟨j, rfl⟩ : ∃ j : Nat, r = (j : Int) := ⟨r.toNat, by omega⟩
  have hl : j < ps.length := by omega
  refine ⟨ps[j], hk _ (List.getElem_mem hl), ?_⟩
  exact atI_nat (by rw [List.getElem?_map, List.getElem?_eq_getElem hl]; rfl)
theorem val_at {vs : List V} {P : V → Prop} (hk : ∀ x ∈ vs, P x) {r : Int} (h0 : 0 ≤ r) (h1 : r < vs.length) : ∃ k, P k ∧ atI vs r = some k := by
  obtain ⟨j, rfl⟩ : ∃ j : Nat, r = (j : Int) := ⟨r.toNat, by omega⟩
  have hl : j < vs.length := by omega
  refine ⟨vs[j], hk _ (List.getElem_mem hl), ?_⟩
  exact atI_nat (List.getElem?_eq_getElem hl)
theorem two_at (x y : V) {r : Int} (h0 : 0 ≤ r) (h1 : r < 2) : atI [x, y] r = some (if r = 0 then x else y) := by
  rcases (by omega : r = 0 ∨ r = 1) with rfl | rfl <;> rfl
/-- the shape of a body's promise: a word of n functions comes, d deep -/
def spWord (n : Nat) (d : Nat) (pre : List V → Hp → Addr → Addr → Prop) : Sp := fun vs H Q _ => ∃ h c, pre vs H h c ∧ Dr H h c ∧
  ∀ v H', But h c H H' → Dr H' h c → Wd H' n d v → Q v H'
def preE (n : Nat) (h c e : Addr) (H : Hp) : Prop := ∃ came pl kl ps ks, EnvAt H h c e n came pl kl ps ks
theorem preE.but {H H' : Hp} {h c e : Addr} {n : Nat} (x : preE n h c e H) (d : Dr H h c) (b : But h c H H') : preE n h c e H' := by
  obtain ⟨came, pl, kl, ps, ks, x⟩ := x
  exact ⟨came, pl, kl, ps, ks, x.but d b⟩
def preLeaf (n : Nat) : List V → Hp → Addr → Addr → Prop := fun vs H h c => ∃ e k, vs = [.ref h, .ref e, .str k] ∧ KindS k ∧ preE n h c e H
def preBody (n m : Nat) : List V → Hp → Addr → Addr → Prop := fun vs H h c => ∃ e k z, vs = [.ref h, .ref e, .str k, .int z] ∧ z = (m : Int) ∧ KindS k ∧ preE n h c e H
def preDeep (n m : Nat) : List V → Hp → Addr → Addr → Prop := fun vs H h c => ∃ e z, vs = [.ref h, .ref e, .int z] ∧ z = (m : Int) ∧ preE n h c e H
theorem kindN : KindS "number" := .inl rfl
theorem kindW : KindS "way" := .inr rfl
theorem two_kinds (r : Int) (h0 : 0 ≤ r) (h1 : r < 2) : ∃ k, KindS k ∧ atI [V.str "number", .str "way"] r = some (.str k) := by
  rcases (by omega : r = 0 ∨ r = 1) with rfl | rfl
  · exact ⟨_, kindN, rfl⟩
  · exact ⟨_, kindW, rfl⟩
theorem three_words (r : Int) (h0 : 0 ≤ r) (h1 : r < 3) : ∃ o : Op, o.arity = 2 ∧ o.gives = false ∧ (∀ n g, o.fits n g) ∧ atI [V.str "plus", .str "less", .str "times"] r = some (.str o.name) := by
  rcases (by omega : r = 0 ∨ r = 1 ∨ r = 2) with rfl | rfl | rfl
  · exact ⟨.plus, rfl, rfl, fun _ _ => trivial, rfl⟩
  · exact ⟨.less, rfl, rfl, fun _ _ => trivial, rfl⟩
  · exact ⟨.times, rfl, rfl, fun _ _ => trivial, rfl⟩
theorem Dr.new {H : Hp} {h c l : Addr} (d : Dr H h c) (hl : H l = none) : l ≠ h ∧ l ≠ c := by
  obtain ⟨m, k, ns, h1, h2, _⟩ := d
  exact ⟨(ne_of_none h1 hl).symm, (ne_of_none h2 hl).symm⟩
theorem wds_keep {H H' : Hp} {n d : Nat} {vs : List V} (k : Keep H H') (h : ∀ v ∈ vs, Wd H n d v) : ∀ v ∈ vs, Wd H' n d v := fun v hv => (h v hv).keep k
theorem wds_app {H : Hp} {n d : Nat} {vs us : List V} (h : ∀ v ∈ vs, Wd H n d v) (h' : ∀ v ∈ us, Wd H n d v) : ∀ v ∈ vs ++ us, Wd H n d v := fun v hv => by
  rcases List.mem_append.mp hv with q | q
  · exact h v q
  · exact h' v q
theorem wds_one {H : Hp} {n d : Nat} {v : V} (h : Wd H n d v) : ∀ u ∈ [v], Wd H n d u := fun u hu => by
  rcases List.mem_singleton.mp hu with rfl
  exact h
end Ov
namespace Ov
open PySem PySem.Spec PyProof.Rows L2
def spWords (d : Nat) : Sp := fun vs H Q _ => ∃ v n u, vs = [v] ∧ WAt H v u ∧ WOk n d u ∧ ∀ H', Same H H' → Q (.int (u.size : Int)) H'
end Ov
/-! ### programs -/
namespace Ov
open PySem PySem.Spec PyProof.Rows L2
/-- the function f stands at v -/
def FAt (H : Hp) (v : V) (f : Int × W) : Prop := ∃ b bv, v = .ref b ∧ H b = some (.tup [.int f.1, bv]) ∧ WAt H bv f.2
def PrAt (H : Hp) (v : V) (p : List (Int × W)) : Prop := ∃ a vs, v = .ref a ∧ H a = some (.tup vs) ∧ Paired (FAt H) vs p
def FOk (n : Nat) (f : Int × W) : Prop := 1 ≤ f.1 ∧ f.1 ≤ 8 ∧ WOk n 7 f.2 ∧ f.2.size ≤ 40
structure PrOk (p : List (Int × W)) : Prop where
  l1 : 1 ≤ p.length
  l8 : p.length ≤ 8
  f : ∀ f ∈ p, FOk p.length f
theorem FAt.keep {H H' : Hp} {v : V} {f : Int × W} (k : Keep H H') (h : FAt H v f) : FAt H' v f := by
  obtain ⟨b, bv, e, h1, h2⟩ := h
  exact ⟨b, bv, e, k _ _ h1, h2.keep k⟩
theorem PrAt.keep {H H' : Hp} {v : V} {p : List (Int × W)} (k : Keep H H') (h : PrAt H v p) : PrAt H' v p := by
  obtain ⟨a, vs, e, h1, h2⟩ := h
  exact ⟨a, vs, e, k _ _ h1, L2.Paired.mapP h2 fun _ _ z => z.keep k⟩
theorem wok0 {n : Nat} {w : W} : ¬ WOk n 0 w := fun h => nomatch h
theorem wok1_size {n : Nat} {w : W} (h : WOk n 1 w) : w.size = 1 := by
  cases h with
  | @mk d o g as h1 h2 h3 =>
    cases as with
    | nil => rw [W.size_mk]; rfl
    | cons a r => exact absurd (h3 a List.mem_cons_self) wok0
theorem three_kinds (r : Int) (h0 : 0 ≤ r) (h1 : r < 3) : ∃ k, KindS k ∧ atI [V.str "number", .str "number", .str "way"] r = some (.str k) := by
  rcases (by omega : r = 0 ∨ r = 1 ∨ r = 2) with rfl | rfl | rfl
  · exact ⟨_, kindN, rfl⟩
  · exact ⟨_, kindN, rfl⟩
  · exact ⟨_, kindW, rfl⟩
theorem four_kinds (r : Int) (h0 : 0 ≤ r) (h1 : r < 4) : ∃ k, KindS k ∧ atI [V.str "number", .str "number", .str "number", .str "way"] r = some (.str k) := by
  rcases (by omega : r = 0 ∨ r = 1 ∨ r = 2 ∨ r = 3) with rfl | rfl | rfl | rfl
  · exact ⟨_, kindN, rfl⟩
  · exact ⟨_, kindN, rfl⟩
  · exact ⟨_, kindN, rfl⟩
  · exact ⟨_, kindW, rfl⟩
theorem two_sizes (r : Int) (h0 : 0 ≤ r) (h1 : r < 2) : ∃ z : Int, 1 ≤ z ∧ z ≤ 8 ∧ atI [V.int 2, .int 8] r = some (.int z) := by
  rcases (by omega : r = 0 ∨ r = 1) with rfl | rfl
  · exact ⟨2, by decide, by decide, rfl⟩
  · exact ⟨8, by decide, by decide, rfl⟩
/-- a program is drawn -/
def spProgram : Sp := fun vs H Q _ => ∃ h c m, vs = [.ref h, .int m] ∧ Dr H h c ∧ 1 ≤ m ∧ m ≤ 8 ∧ ∀ v H' p, But h c H H' → Dr H' h c → PrAt H' v p → PrOk p → Q v H'
/-- the bodies' promises, for any number of functions and any depth up to 4 -/
def spBodies : Sp := fun vs H Q E => ∃ i : Nat × _root_.Fin 5, spWord i.1 (i.2.val + 2) (preBody i.1 i.2.val) vs H Q E
def spLeaves : Sp := fun vs H Q E => ∃ n : Nat, spWord n 1 (preLeaf n) vs H Q E
end Ov

/-! ### trees as data -/
namespace Ov
open PySem PySem.Spec PyProof.Rows L2
theorem flat_set {α : Type} (x : α) : ∀ (ps : List (List α)) (k : Nat) (p : List α), ps[k]? = some p → (ps.set k (p ++ [x])).flatten.Perm (ps.flatten ++ [x])
  | [], k, p, h => by simp at h
  | q :: r, 0, p, h => by
    have e : q = p := Option.some.inj h
    subst e
    show ((q ++ [x]) ++ r.flatten).Perm ((q ++ r.flatten) ++ [x])
    rw [List.append_assoc, List.append_assoc]
    exact List.Perm.append_left q List.perm_append_comm
  | q :: r, k + 1, p, h => by
    show (q ++ (r.set k (p ++ [x])).flatten).Perm ((q ++ r.flatten) ++ [x])
    rw [List.append_assoc]
    exact List.Perm.append_left q (flat_set x r k p h)
theorem erase_perm {α : Type} : ∀ (l : List α) (k : Nat) (x : α), l[k]? = some x → (x :: l.eraseIdx k).Perm l
  | [], k, x, h => by simp at h
  | a :: r, 0, x, h => by
    have e : a = x := Option.some.inj h
    subst e
    exact List.Perm.refl _
  | a :: r, k + 1, x, h => by
    have ih := erase_perm r k x h
    show (x :: a :: r.eraseIdx k).Perm (a :: r)
    exact (List.Perm.swap a x _).trans (ih.cons a)
def nV (p : List Nat) : List V := p.map fun (x : Nat) => V.int (x : Int)
theorem nV_len (p : List Nat) : (nV p).length = p.length := List.length_map _
theorem nV_get {p : List Nat} {k x : Nat} (h : p[k]? = some x) : (nV p)[k]? = some (.int (x : Int)) := by unfold nV; rw [List.getElem?_map, h]; rfl
theorem nV_app (p : List Nat) (x : Nat) : nV (p ++ [x]) = nV p ++ [.int (x : Int)] := List.map_append
theorem nV_erase : ∀ (p : List Nat) (k : Nat), (nV p).eraseIdx k = nV (p.eraseIdx k)
  | [], _ => rfl
  | _ :: _, 0 => rfl
  | a :: r, k + 1 => congrArg (V.int (a : Int) :: ·) (nV_erase r k)
theorem rgV_nV (n : Nat) : rgV 0 (n : Int) = nV (List.range n) := by
  unfold rgV nV
  rw [show ((n : Int) - 0).toNat = n by omega]
  refine List.map_congr_left fun i _ => ?_
  rw [Int.zero_add]
/-- what parts of i functions are -/
structure PInv (i : Nat) (ps : List (List Nat)) : Prop where
  ne : ∀ p ∈ ps, p ≠ []
  rise : ∀ p ∈ ps, p.Pairwise (· < ·)
  firsts : (ps.map (·.headD 0)).Pairwise (· < ·)
  perm : ps.flatten.Perm (List.range i)
theorem PInv.lt {i : Nat} {ps : List (List Nat)} (h : PInv i ps) {p : List Nat} (hp : p ∈ ps) {x : Nat} (hx : x ∈ p) : x < i :=
  List.mem_range.mp (h.perm.mem_iff.mp (List.mem_flatten.mpr ⟨p, hp, hx⟩))
theorem PInv.head {i : Nat} {ps : List (List Nat)} (h : PInv i ps) {p : List Nat} (hp : p ∈ ps) : p.headD 0 < i := by
  have ne := h.ne p hp
  cases p with
  | nil => exact absurd rfl ne
  | cons a r => exact h.lt hp List.mem_cons_self
theorem PInv.app {i : Nat} {ps : List (List Nat)} (h : PInv i ps) : PInv (i + 1) (ps ++ [[i]]) where
  ne := fun p hp => by
    rcases List.mem_append.mp hp with z | z
    · exact h.ne p z
    · rw [List.mem_singleton.mp z]; exact List.cons_ne_nil _ _
  rise := fun p hp => by
    rcases List.mem_append.mp hp with z | z
    · exact h.rise p z
    · rw [List.mem_singleton.mp z]; exact List.pairwise_singleton _ _
  firsts := by
    rw [List.map_append, List.pairwise_append]
    refine ⟨h.firsts, List.pairwise_singleton _ _, fun a ha b hb => ?_⟩
    obtain ⟨p, hp, rfl⟩ := List.mem_map.mp ha
    have e : b = i := by simpa using hb
    rw [e]
    exact h.head hp
  perm := by
    rw [List.flatten_append, List.range_succ]
    exact List.Perm.append_right _ h.perm
theorem mem_set_cases {α : Type} {l : List α} {k : Nat} {x y : α} (h : y ∈ l.set k x) : y ∈ l ∨ y = x := List.mem_or_eq_of_mem_set h
theorem PInv.set {i k : Nat} {ps : List (List Nat)} {p : List Nat} (h : PInv i ps) (hk : ps[k]? = some p) : PInv (i + 1) (ps.set k (p ++ [i])) where
  ne := fun q hq => by
    rcases mem_set_cases hq with z | z
    · exact h.ne q z
    · rw [z]; simp
  rise := fun q hq => by
    rcases mem_set_cases hq with z | z
    · exact h.rise q z
    · rw [z, List.pairwise_append]
      refine ⟨h.rise p (List.mem_of_getElem? hk), List.pairwise_singleton _ _, fun a ha b hb => ?_⟩
      rw [List.mem_singleton.mp hb]
      exact h.lt (List.mem_of_getElem? hk) ha
  firsts := by
    have e : (ps.set k (p ++ [i])).map (·.headD 0) = ps.map (·.headD 0) := by
      rw [List.map_set]
      have ne := h.ne p (List.mem_of_getElem? hk)
      have e2 : (p ++ [i]).headD 0 = p.headD 0 := by
        cases p with
        | nil => exact absurd rfl ne
        | cons a r => rfl
      rw [e2]
      refine List.ext_getElem? fun j => ?_
      rw [List.getElem?_set]
      split
      · rename_i z
        subst z
        rw [List.getElem?_map, hk]
        split
        · rfl
        · rename_i y
          have := (List.getElem?_eq_some_iff.mp hk).1
          rw [List.length_map] at y
          exact absurd this y
      · rfl
    rw [e]
    exact h.firsts
  perm := by
    rw [List.range_succ]
    exact (flat_set i ps k p hk).trans (List.Perm.append_right _ h.perm)
/-- on what parts stand, by their order -/
def SInv (od : List Nat) (st : List Int) : Prop := ∀ (t x : Nat), od[t]? = some x → st[x]? = some (-1) ∨ ∃ (j y : Nat), j < t ∧ od[j]? = some y ∧ st[x]? = some ((y : Nat) : Int)
theorem SInv.set {od : List Nat} {st : List Int} {k x : Nat} {z : Int} (h : SInv od st) (nd : od.Nodup) (hk : od[k]? = some x) (hx : x < st.length) (hz : z = -1 ∨ ∃ (j y : Nat), j < k ∧ od[j]? = some y ∧ z = ((y : Nat) : Int)) : SInv od (st.set x z) := fun t y hy => by
  by_cases e : x = y
  · subst e
    have et : t = k := by
      obtain ⟨h1, e1⟩ := List.getElem?_eq_some_iff.mp hy
      obtain ⟨h2, e2⟩ := List.getElem?_eq_some_iff.mp hk
      exact (List.getElem_inj nd).mp (e1.trans e2.symm)
    subst et
    rw [List.getElem?_set_self hx]
    rcases hz with rfl | ⟨j, y, h1, h2, rfl⟩
    · exact .inl rfl
    · exact .inr ⟨j, y, h1, h2, rfl⟩
  · rw [List.getElem?_set_ne e]
    exact h t y hy
/-- a tree of n functions: parts, on what they stand -/
structure TrOk (n : Nat) (ps : List (List Nat)) (st : List Int) : Prop where
  p : PInv n ps
  len : st.length = ps.length
  ord : ∃ od : List Nat, od.Perm (List.range ps.length) ∧ SInv od st
def PartAt (H : Hp) (v : V) (p : List Nat) : Prop := ∃ b, v = .ref b ∧ H b = some (.tup (nV p))
def TrAt (H : Hp) (v : V) (ps : List (List Nat)) (st : List Int) : Prop := ∃ a pa sa vs, v = .ref a ∧ H a = some (.tup [.ref pa, .ref sa]) ∧ H pa = some (.tup vs) ∧ Paired (PartAt H) vs ps ∧ H sa = some (.tup (st.map V.int))
theorem PartAt.keep {H H' : Hp} {v : V} {p : List Nat} (k : Keep H H') (h : PartAt H v p) : PartAt H' v p := by
  obtain ⟨b, e, h⟩ := h
  exact ⟨b, e, k _ _ h⟩
theorem TrAt.keep {H H' : Hp} {v : V} {ps : List (List Nat)} {st : List Int} (k : Keep H H') (h : TrAt H v ps st) : TrAt H' v ps st := by
  obtain ⟨a, pa, sa, vs, e, h1, h2, h3, h4⟩ := h
  exact ⟨a, pa, sa, vs, e, k _ _ h1, k _ _ h2, L2.Paired.mapP h3 fun _ _ z => z.keep k, k _ _ h4⟩
/-- lists that grow: each its own -/
def LsAt (H : Hp) (bs : List Addr) (qs : List (List Nat)) : Prop := Paired (fun b q => H b = some (.lst (nV q))) bs qs
theorem LsAt.keep {H H' : Hp} : ∀ {bs : List Addr} {qs : List (List Nat)}, (∀ b ∈ bs, ∀ o, H b = some o → H' b = some o) → LsAt H bs qs → LsAt H' bs qs
  | _, _, _, .nil => .nil
  | _, _, k, .cons h r => .cons (k _ List.mem_cons_self _ h) (LsAt.keep (fun b hb => k b (List.mem_cons_of_mem _ hb)) r)
theorem LsAt.get {H : Hp} : ∀ {bs : List Addr} {qs : List (List Nat)} {k : Nat} {q : List Nat}, LsAt H bs qs → qs[k]? = some q → ∃ b, bs[k]? = some b ∧ H b = some (.lst (nV q))
  | _, _, _, _, .nil, e => by simp at e
  | _, _, 0, q, .cons h r, e => by
    have e2 := Option.some.inj e
    subst e2
    exact ⟨_, rfl, h⟩
  | _, _, k + 1, q, .cons _ r, e => LsAt.get (k := k) (q := q) r e
theorem LsAt.set {H : Hp} : ∀ {bs : List Addr} {qs : List (List Nat)} {k : Nat} {b : Addr} {q' : List Nat}, LsAt H bs qs → bs.Nodup → bs[k]? = some b → LsAt (upd H b (.lst (nV q'))) bs (qs.set k q')
  | _, _, _, _, _, .nil, _, e => by simp at e
  | a :: bs, _ :: qs, 0, b, q', .cons h r, nd, e => by
    have e2 : a = b := Option.some.inj e
    subst e2
    refine .cons upd_same (LsAt.keep (fun c hc o ho => ?_) r)
    have ne : c ≠ a := fun z => by rw [z] at hc; exact (List.nodup_cons.mp nd).1 hc
    rw [upd_ne ne]
    exact ho
  | a :: bs, _ :: qs, k + 1, b, q', .cons h r, nd, e => by
    have hb : b ∈ bs := List.mem_of_getElem? (show bs[k]? = some b from e)
    have ne : a ≠ b := fun z => by rw [z] at nd; exact (List.nodup_cons.mp nd).1 hb
    exact .cons (by rw [upd_ne ne]; exact h) (LsAt.set r (List.nodup_cons.mp nd).2 e)
theorem LsAt.mem {H : Hp} : ∀ {bs : List Addr} {qs : List (List Nat)}, LsAt H bs qs → ∀ b ∈ bs, ∃ q, H b = some (.lst (nV q))
  | _, _, .nil, b, hb => nomatch hb
  | _, _, .cons h r, b, hb => by
    rcases List.mem_cons.mp hb with z | z
    · rw [z]; exact ⟨_, h⟩
    · exact LsAt.mem r b z
theorem cut_to (xs : List V) (k : Nat) (h : k ≤ xs.length) : cutV xs none (some (k : Int)) = xs.take k := by
  unfold cutV
  rw [HT.sIx_none, HT.sIx_nat, Nat.min_eq_left h, List.drop_zero, Nat.sub_zero]
theorem mem_flat_len : ∀ {ps : List (List Nat)} {p : List Nat}, p ∈ ps → p.length ≤ ps.flatten.length
  | q :: r, p, h => by
    rw [List.flatten_cons, List.length_append]
    rcases List.mem_cons.mp h with z | z
    · rw [z]; omega
    · have := mem_flat_len z; omega
theorem flat_len : ∀ {ps : List (List Nat)}, (∀ p ∈ ps, p ≠ []) → ps.length ≤ ps.flatten.length
  | [], _ => Nat.le_refl _
  | q :: r, h => by
    have h1 := flat_len (ps := r) fun p hp => h p (List.mem_cons_of_mem _ hp)
    have h2 := List.length_pos_iff.mpr (h q List.mem_cons_self)
    rw [List.flatten_cons, List.length_append, List.length_cons]
    omega
theorem PInv.plen {i : Nat} {ps : List (List Nat)} (h : PInv i ps) {p : List Nat} (hp : p ∈ ps) : p.length ≤ i := by
  have h1 := mem_flat_len hp
  have h2 := h.perm.length_eq
  rw [List.length_range] at h2
  omega
theorem PInv.count {i : Nat} {ps : List (List Nat)} (h : PInv i ps) : ps.length ≤ i := by
  have h1 := flat_len h.ne
  have h2 := h.perm.length_eq
  rw [List.length_range] at h2
  omega
theorem PInv.pos {i : Nat} {ps : List (List Nat)} (h : PInv i ps) (hi : 0 < i) : 0 < ps.length := by
  cases ps with
  | nil =>
    have h2 := h.perm.length_eq
    rw [List.length_range] at h2
    exact absurd h2 (by show ¬ 0 = i; omega)
  | cons a r => exact Nat.succ_pos _
theorem set_last (ps : List (List Nat)) (x : List Nat) : (ps ++ [[]]).set ps.length x = ps ++ [x] := by
  rw [List.set_append_right (h := Nat.le_refl _), Nat.sub_self]
  rfl
theorem rep_neg (m : Nat) : (List.replicate ((m : Nat) : Int).toNat [V.int (-1)]).flatten = (List.replicate m (-1 : Int)).map V.int := by
  rw [Int.toNat_natCast]
  induction m with
  | zero => rfl
  | succ m ih =>
    show [V.int (-1)] ++ (List.replicate m [V.int (-1)]).flatten = _
    rw [ih]
    rfl
theorem SInv.start (od : List Nat) (m : Nat) (h : ∀ x ∈ od, x < m) : SInv od (List.replicate m (-1)) := fun t x hx => .inl (by
  rw [List.getElem?_replicate, if_pos (h x (List.mem_of_getElem? hx))])
/-- a tree is drawn -/
def spTree : Sp := fun vs H Q _ => ∃ h c a n vp, vs = [.ref h, .ref a] ∧ Dr H h c ∧ H a = some (.tup vp) ∧ vp.length = n ∧ 1 ≤ n ∧ n ≤ 8 ∧ ∀ v H' ps st, But h c H H' → Dr H' h c → TrAt H' v ps st → TrOk n ps st → Q v H'
end Ov

/-! ### enumerate and zip over lists and tuples alike -/
namespace Ov
open PySem PySem.Spec PyProof.Rows L2
/-- what is walked: a list | a tuple -/
inductive Sk where
  | l | t
def Sk.S (K : PySem.W.Frag) (H : Hp) (a : Addr) (xs : List V) : Sk → Prop
  | .l => SqL K H a xs
  | .t => SqT K H a xs
def Sk.It (h : Heap) (it a : Addr) (i : Nat) : Sk → Prop
  | .l => h.IsListIter it a i
  | .t => h.IsTupleIter it a i
def Sk.Is (h : Heap) (a : Addr) (its : Array Value) : Sk → Prop
  | .l => h.IsList a its
  | .t => h.IsTuple a its
def Sk.new (a : Addr) : Sk → Obj
  | .l => { cls := .type "list_iterator", data := .fields #[.ref a, .int 0 0] }
  | .t => { cls := .type "tuple_iterator", data := .fields #[.ref a, .int 0 0] }
def Sk.St (k : Sk) (it a : Addr) (its : Array Value) : Nat → Heap → Prop := fun i h => k.It h it a i ∧ k.Is h a its
theorem Sk.draws (k : Sk) {P : Program} {w : World} {A : Around} (hh : A.handled = none) (it a : Addr) (ne : a ≠ it) (its : Array Value) : Draws P w A it [it, a] its.size (fun i v => its[i]? = some v) (k.St it a its) := by
  cases k
  · exact Draws.list hh it a ne its
  · exact Draws.tuple hh it a ne its
theorem Sk.begins (k : Sk) (a : Addr) (its : Array Value) : Begins (.ref a) (k.new a) (fun h => k.Is h a its) := by
  cases k
  · exact begins_list a its
  · exact begins_tuple a its
theorem Sk.it_obj {k : Sk} {h : Heap} {it a : Addr} {i : Nat} (x : k.It h it a i) : ∃ o, h.get? it = some o ∧ ∀ v, o.data ≠ .cell v := by
  cases k
  · obtain ⟨o, h1, _, h2⟩ := x
    exact ⟨o, h1, fun v z => by rw [h2] at z; cases z⟩
  · obtain ⟨o, h1, _, h2⟩ := x
    exact ⟨o, h1, fun v z => by rw [h2] at z; cases z⟩
theorem Sk.it_keep {k : Sk} {h g : Heap} {it a : Addr} {i : Nat} (x : k.It h it a i) (q : ∀ o, h.get? it = some o → g.get? it = some o) : k.It g it a i := by
  cases k
  · exact Heap.IsListIter.at x q
  · exact Heap.IsTupleIter.at x q
theorem Sk.it_new {k : Sk} {h : Heap} {it a : Addr} (e : h.get? it = some (k.new a)) : k.It h it a 0 := by
  cases k
  · exact ⟨_, e, rfl, rfl⟩
  · exact ⟨_, e, rfl, rfl⟩
theorem Sk.is_lt {k : Sk} {h : Heap} {a : Addr} {its : Array Value} (x : k.Is h a its) : a < h.objs.size := by
  cases k
  · obtain ⟨o, e, _⟩ := x
    exact Heap.lt_size e
  · obtain ⟨o, e, _⟩ := x
    exact Heap.lt_size e
theorem Sk.read {k : Sk} {X : Cx} {pins : List (Addr × Obj)} {σ : L2.St} {H : Hp} {s : Shared} {a : Addr} {xs : List V} (I : Inv X pins σ H s) (h : k.S X.K H a xs) : ∃ its, Vals xs its ∧ k.Is s.heap a its.toArray := by
  cases k
  · obtain ⟨its, r, p, _⟩ := I.list h
    exact ⟨its, r, p.isList⟩
  · obtain ⟨its, r, p, _⟩ := I.tuple h
    exact ⟨its, r, p⟩
theorem Sk.inj {k : Sk} {X : Cx} {pins : List (Addr × Obj)} {σ : L2.St} {H : Hp} {s : Shared} {a : Addr} {xs ys : List V} (I : Inv X pins σ H s) (h : k.S X.K H a xs) (h' : k.S X.K H a ys) : xs = ys := by
  cases k
  · exact I.list_inj h h'
  · exact I.tuple_inj h h'
/-- enumerate: each item in a new pair -/
def EnI (K : PySem.W.Frag) (k : Sk) (a : Addr) : L2.It where
  go := fun i H => ∃ (xs : List V) (x : V), k.S K H a xs ∧ xs[i]? = some x
  yld := fun i H v H' => ∃ T x, v = .ref T ∧ H T = none ∧ H' = upd H T (.tup [.int (i : Nat), x]) ∧ ∀ xs, k.S K H a xs → xs[i]? = some x
  stop := fun i H => ∃ xs : List V, k.S K H a xs ∧ i = xs.length
/-- zip -/
def ZpI (K : PySem.W.Frag) (k m : Sk) (a b : Addr) : L2.It where
  go := fun i H => ∃ (xs ys : List V) (x y : V), k.S K H a xs ∧ m.S K H b ys ∧ xs[i]? = some x ∧ ys[i]? = some y
  yld := fun i H v H' => ∃ T x y, v = .ref T ∧ H T = none ∧ H' = upd H T (.tup [x, y]) ∧ (∀ xs, k.S K H a xs → xs[i]? = some x) ∧ ∀ ys, m.S K H b ys → ys[i]? = some y
  stop := fun i H => ∃ xs ys : List V, k.S K H a xs ∧ m.S K H b ys ∧ i ≤ xs.length ∧ i ≤ ys.length ∧ (i = xs.length ∨ i = ys.length)
/-- the cells of an enumerate -/
def EnT (k : Sk) (e it a : Addr) : Nat → Heap → Prop := fun i h => (∃ old, IsEnum h e it ((i : Nat) : Int) old) ∧ k.It h it a i ∧ e ≠ it ∧ a ≠ it ∧ e ≠ a
theorem two_mem {b e it : Addr} (h : b ∈ [e, it]) : b = e ∨ b = it := by simpa using h
theorem en_turn {P : Program} {w : World} {K : PySem.W.Frag} {elts : List Expr} {kk : Nat} {tpos : Pos} (k : Sk) (e it a : Addr) : Turn P w K (.Tuple elts kk tpos) (EnI K k a) [e, it] e (EnT k e it a) := by
  refine { mem := List.mem_cons_self, obj := ?_, keep := ?_, item := ?_, done := ?_, self := ?_ }
  · rintro i h ⟨⟨old, h1⟩, h2, _⟩ b hb
    rcases two_mem hb with z | z
    · refine ⟨_, by rw [z]; exact h1, ?_⟩
      intro v y
      cases y
    · rw [z]
      exact Sk.it_obj h2
  · rintro i h g ⟨⟨old, h1⟩, h2, h3⟩ q
    exact ⟨⟨old, q e (by simp) _ h1⟩, Sk.it_keep h2 (q it (by simp)), h3⟩
  · rintro X rfl rfl rfl hc i pins s σ H E I hf ⟨⟨old, h1⟩, h2, n1, n2, n3⟩ ⟨xs, x, hq, hx⟩
    obtain ⟨its, rv, his⟩ := Sk.read I hq
    obtain ⟨u, hu, ru⟩ := rv.get hx
    have hlt : i < its.toArray.size := by rw [List.size_toArray]; exact (List.getElem?_eq_some_iff.mp hu).1
    have hel : e < s.heap.objs.size := Heap.lt_size h1
    have hil : it < s.heap.objs.size := by obtain ⟨_, z, _⟩ := Sk.it_obj h2; exact Heap.lt_size z
    refine wpAny_pyNext_enum_itemD (k.draws (A := X.A.in1) (I.ok.hd hc) it a n2 its.toArray) h1 ⟨h2, his⟩ hlt n1 (by simp; exact ⟨n1, n3⟩) fun y g tk py out st hT hsz hk => ?_
    obtain rfl : y = u := by
      have z : its[i]? = some y := by simpa using py
      exact Option.some.inj (z.symm.trans hu)
    refine ⟨_, rfl, wpAny_letOwnedTupleGo_enum (s := { s with heap := g, toks := tk + 1 }) out fun g2 he2 sb => ?_⟩
    have hT2 : g2.get? s.heap.objs.size = some { cls := .type "tuple", data := .seq #[.int i tk, y] } := by rw [sb.2 _ (Nat.ne_of_gt hel)]; exact hT
    have ok : ObjOk X.prog X.w (upd H s.heap.objs.size (.tup [.int (i : Nat), x])) g2 s.heap.objs.size (.tup [.int (i : Nat), x]) := ⟨sml 2, [.int i tk, y], .cons ⟨tk, rfl⟩ (.cons ru .nil), ⟨_, hT2, rfl, _, rfl⟩⟩
    have I2 : Inv X pins σ (upd H s.heap.objs.size (.tup [.int (i : Nat), x])) { s with heap := g2, toks := tk + 1 } := by
      refine I.turnedNew (ch := [e, it]) (fun b o hb q => ?_) hf (Nat.le_refl _) ok
      have b1 : b ≠ e := fun z => hb (by rw [z]; simp)
      have b2 : b ≠ it := fun z => hb (by rw [z]; simp)
      rw [sb.2 b b1]
      exact hk b o b1 b2 q
    refine ⟨.ref s.heap.objs.size, _, I2, rfl, ⟨_, x, rfl, I.hok.fresh (Nat.le_refl _), rfl, fun ys hy => ?_⟩, ⟨⟨y, ?_⟩, ?_, n1, n2, n3⟩, fun b hb => ?_⟩
    · rw [Sk.inj I hy hq]
      exact hx
    · rw [show ((i + 1 : Nat) : Int) = (i : Int) + 1 by omega]
      exact he2
    · exact Sk.it_keep st.1 fun o z => by rw [sb.2 it n1.symm]; exact z
    · have b1 : b ≠ s.heap.objs.size := by
        rcases two_mem hb with z | z
        · rw [z]; exact Nat.ne_of_lt hel
        · rw [z]; exact Nat.ne_of_lt hil
      rw [upd_ne b1]
      exact (hf b hb).1
  · rintro X rfl rfl rfl hc i pins s σ H E I hf ⟨⟨old, h1⟩, h2, n1, n2, n3⟩ ⟨xs, hq, hx⟩
    subst hx
    obtain ⟨its, rv, his⟩ := Sk.read I hq
    have el : xs.length = its.toArray.size := by rw [List.size_toArray]; exact rv.length
    rw [el] at h2
    obtain ⟨f0, f1, f2, f3, f4, f5⟩ := hf it (by simp)
    exact wpAny_pyNext_enum_endD (k.draws (A := X.A.in1) (I.ok.hd hc) it a n2 its.toArray) h1 ⟨h2, his⟩ fun g q => ⟨rfl, I.turned (t' := s.toks) (fun b o hb z => q b o hb z) f0 f1 f3 f4 f5⟩
  · rintro A i s Q E ⟨⟨old, h1⟩, _⟩ q
    exact wpAny_pyIter_enum h1 q
/-- enumerate(x) makes two cells -/
theorem en_meets {v : Value} {o : Obj} {C : Heap → Prop} (B : Begins v o C) : Meets (Builtin.«enumerate.__new__» ⟨[.type "enumerate", v], []⟩) (fun _ R s => C s.heap ∧
    R (.ok (.ret (.ref (s.heap.push o).objs.size))) { s with heap := (s.heap.push o).push { cls := .type "enumerate", data := .fields #[.none, .bool false, .ref s.heap.objs.size, rawInt 0, .none, .none] } }) := .of_wp fun prog w A R s h => by
  obtain ⟨hp, gs, dr, tk, os⟩ := s
  obtain ⟨hC, h⟩ := h
  have sub := sub_enumerate
  have go : ∀ {B1 : Around} {E Q : Value → Shared → Prop}, Q (.ref hp.objs.size) ⟨hp.push o, gs, dr, tk, os⟩ → wpAny (model prog w) B1 (pyIter v) Q E ⟨hp, gs, dr, tk, os⟩ := fun q => B.iter prog w _ _ ⟨hp, gs, dr, tk, os⟩ _ hC q
  wp_walk using go
  refine wpAny_stack_any fun st => wpAny_pure ?_
  split
  · rename_i c _ _ _ _ _
    cases (c == Value.type "enumerate") <;> (wp_walk using go; exact ⟨_, rfl, h⟩)
  · wp_walk using go
    exact ⟨_, rfl, h⟩
theorem en_call {P : Program} {w : World} {A : Around} {E Q : Value → Shared → Prop} {s : Shared} {v : Value} {o : Obj} {C : Heap → Prop} (B : Begins v o C) (hC : C s.heap)
    (q : ∀ g, IsEnum g (s.heap.objs.size + 1) s.heap.objs.size 0 .none → g.get? s.heap.objs.size = some o → (∀ b u, s.heap.get? b = some u → g.get? b = some u) → Q (.ref (s.heap.objs.size + 1)) { s with heap := g }) :
    wpAny (model P w) A (call (.type "enumerate") [v]) Q E s := by
  have z : (s.heap.push o).objs.size = s.heap.objs.size + 1 := Heap.size_push ..
  have e1 := Heap.get?_push_size (s.heap.push o) (o := { cls := .type "enumerate", data := .fields #[.none, .bool false, .ref s.heap.objs.size, rawInt 0, .none, .none] }) rfl
  rw [z] at e1
  refine callType_new F.called_enumerate (by decide) (F.typeCall_enumerate_1 _) (F.newCall_enumerate_1 _) (fun obj => F.args_object_init_2 obj _) F.entry_enumerate_new (en_meets B) ⟨hC, ?_⟩
  show _ ∧ _
  rw [z]
  exact ⟨⟨_, e1, rfl⟩, q _ e1 (Heap.get?_push_of_some _ (Heap.get?_push_size _ B.free)) fun b u x => Heap.get?_push_of_some _ (Heap.get?_push_of_some _ x)⟩
def iEn (K : PySem.W.Frag) (k : Sk) (ta : TA) : L2.TI := fun σ H R => ta σ H fun vs H1 => ∃ a xs, vs = [.ref a] ∧ k.S K H1 a xs ∧ R (EnI K k a) H1
theorem pi_en {X : Cx} {K : PySem.W.Frag} {e : Expr} {ta : TA} {p pos tpos : Pos} {elts : List Expr} {kk : Nat} (k : Sk) (hK : X.K = K) (hg : Gl X "enumerate") (hm : X.mg "enumerate" = none) (ha : PA X [e] ta) (hs : starEach [e] X.env = [(false, eval e X.env)] := by rfl) :
    PI X (.Tuple elts kk tpos) (.Call (.Name "enumerate" p) [e] [] pos) (iEn K k ta) := by
  subst hK
  refine ⟨fun pins s σ H R I h => Call_ (ld_blt I hg hm boot_enumerate (PyProof.Rows.callWith_type1 (thn (ha.run pos pins s σ H _ I h) fun us s1 ⟨vs, H1, I1, r1, q1⟩ => ?_) hs rfl))⟩
  obtain ⟨a, xs, rfl, hq, q⟩ := q1
  obtain ⟨u, rfl, ru⟩ := r1.one
  cases ru
  obtain ⟨its, rv, his⟩ := Sk.read I1 hq
  refine en_call (k.begins a its.toArray) his fun g h1 h2 hk => wpAny_pyIter_enum h1 ?_
  have I2 : Inv X pins σ H1 { s1 with heap := g } := I1.kept (t' := s1.toks) hk
  have la := Sk.is_lt his
  refine ⟨s1.heap.objs.size + 1, [s1.heap.objs.size + 1, s1.heap.objs.size], _, _, H1, rfl, I2, en_turn k (s1.heap.objs.size + 1) s1.heap.objs.size a, ⟨⟨.none, h1⟩, Sk.it_new h2, Nat.succ_ne_self _, Nat.ne_of_lt la, Nat.ne_of_gt (Nat.lt_succ_of_lt la)⟩, fun b hb => ?_, q⟩
  have le : s1.heap.objs.size ≤ b := by rcases two_mem hb with z | z <;> (rw [z]; first | exact Nat.le_refl _ | exact Nat.le_succ _)
  exact I1.fpOk le (I1.hok.fresh le)
/-- the cells of a zip -/
def ZpT (k m : Sk) (z ti to_ i1 i2 a b : Addr) : Nat → Heap → Prop := fun i h => IsZip h z ti to_ .none ∧ IsTupOf2 h ti (.ref i1) (.ref i2) ∧ (∃ x y, IsTupOf2 h to_ x y) ∧ k.It h i1 a i ∧ m.It h i2 b i
theorem five_mem {c z ti to_ i1 i2 : Addr} (h : c ∈ [z, ti, to_, i1, i2]) : c = z ∨ c = ti ∨ c = to_ ∨ c = i1 ∨ c = i2 := by simpa using h
theorem zp_sep {z ti to_ i1 i2 a b : Addr} (D : ZipApart z ti to_ i1 i2 a b) : ZipSep2 z ti to_ i1 i2 [i1, a] [i2, b] where
  TIz := D.TIz
  TOz := D.TOz
  TITO := D.TITO
  TIi1 := D.TIi1
  mem1 := List.mem_cons_self
  zf1 := by simp; exact ⟨D.i1z.symm, D.l1z.symm⟩
  Tf1 := by simp; exact ⟨D.TOi1, D.l1TO.symm⟩
  TIi2 := D.TIi2
  mem2 := List.mem_cons_self
  zf2 := by simp; exact ⟨D.i2z.symm, D.l2z.symm⟩
  Tf2 := by simp; exact ⟨D.TOi2, D.l2TO.symm⟩
  sep1_2 := by simp; exact ⟨D.i12, D.l2i1.symm⟩
  sep2_1 := by simp; exact ⟨D.i12.symm, D.l1i2.symm⟩
theorem zp_turn {P : Program} {w : World} {K : PySem.W.Frag} {elts : List Expr} {kk : Nat} {tpos : Pos} (k m : Sk) {z ti to_ i1 i2 a b : Addr} (D : ZipApart z ti to_ i1 i2 a b) : Turn P w K (.Tuple elts kk tpos) (ZpI K k m a b) [z, ti, to_, i1, i2] z (ZpT k m z ti to_ i1 i2 a b) := by
  refine { mem := List.mem_cons_self, obj := ?_, keep := ?_, item := ?_, done := ?_, self := ?_ }
  · rintro i h ⟨hz, h1, ⟨x, y, h2⟩, h3, h4⟩ c hc
    rcases five_mem hc with e | e | e | e | e <;> rw [e]
    · refine ⟨_, hz, ?_⟩
      intro v y
      cases y
    · refine ⟨_, h1, ?_⟩
      intro v y
      cases y
    · refine ⟨_, h2, ?_⟩
      intro v y
      cases y
    · exact Sk.it_obj h3
    · exact Sk.it_obj h4
  · rintro i h g ⟨hz, h1, ⟨x, y, h2⟩, h3, h4⟩ q
    exact ⟨q z (by simp) _ hz, q ti (by simp) _ h1, ⟨x, y, q to_ (by simp) _ h2⟩, Sk.it_keep h3 (q i1 (by simp)), Sk.it_keep h4 (q i2 (by simp))⟩
  · rintro X rfl rfl rfl hc i pins s σ H E I hf ⟨hz, h1, ⟨x0, y0, h2⟩, h3, h4⟩ ⟨xs, ys, x, y, hqx, hqy, hx, hy⟩
    obtain ⟨its, rv, his⟩ := Sk.read I hqx
    obtain ⟨jts, rw_, hjs⟩ := Sk.read I hqy
    obtain ⟨u, hu, ru⟩ := rv.get hx
    obtain ⟨v, hv, rv2⟩ := rw_.get hy
    have l1 : i < its.toArray.size := by rw [List.size_toArray]; exact (List.getElem?_eq_some_iff.mp hu).1
    have l2 : i < jts.toArray.size := by rw [List.size_toArray]; exact (List.getElem?_eq_some_iff.mp hv).1
    have hzl : z < s.heap.objs.size := Heap.lt_size hz
    refine wpAny_pyNext_zipD2_item (zp_sep D) (k.draws (A := X.A.in1) (I.ok.hd hc) i1 a D.l1i1 its.toArray) (m.draws (A := X.A.in1) (I.ok.hd hc) i2 b D.l2i2 jts.toArray) hz h1 h2 ⟨h3, his⟩ ⟨h4, hjs⟩ l1 l2 fun u' v' g tk pu pv z1 t1 s1 s2 hT hsz hk => ?_
    obtain rfl : u' = u := by
      have e : its[i]? = some u' := by simpa using pu
      exact Option.some.inj (e.symm.trans hu)
    obtain rfl : v' = v := by
      have e : jts[i]? = some v' := by simpa using pv
      exact Option.some.inj (e.symm.trans hv)
    refine ⟨_, rfl, wpAny_letOwnedTupleGo_zip (s := { s with heap := g, toks := tk }) z1 fun g2 z2 sb => ?_⟩
    have hT2 : g2.get? s.heap.objs.size = some { cls := .type "tuple", data := .seq #[u', v'] } := by rw [sb.2 _ (Nat.ne_of_gt hzl)]; exact hT
    have ok : ObjOk X.prog X.w (upd H s.heap.objs.size (.tup [x, y])) g2 s.heap.objs.size (.tup [x, y]) := ⟨sml 2, [u', v'], .cons ru (.cons rv2 .nil), ⟨_, hT2, rfl, _, rfl⟩⟩
    have I2 : Inv X pins σ (upd H s.heap.objs.size (.tup [x, y])) { s with heap := g2, toks := tk } := by
      refine I.turnedNew (ch := [z, ti, to_, i1, i2]) (fun c o hc2 q => ?_) hf (Nat.le_refl _) ok
      have n1 : c ≠ z := fun e => hc2 (by rw [e]; simp)
      have n2 : c ≠ to_ := fun e => hc2 (by rw [e]; simp)
      have n3 : c ≠ i1 := fun e => hc2 (by rw [e]; simp)
      have n4 : c ≠ i2 := fun e => hc2 (by rw [e]; simp)
      rw [sb.2 c n1]
      exact hk c o n1 n2 n3 n4 q
    refine ⟨.ref s.heap.objs.size, _, I2, rfl, ⟨_, x, y, rfl, I.hok.fresh (Nat.le_refl _), rfl, fun l hl => ?_, fun l hl => ?_⟩, ⟨z2, ?_, ⟨u', v', ?_⟩, ?_, ?_⟩, fun c hcm => ?_⟩
    · rw [Sk.inj I hl hqx]; exact hx
    · rw [Sk.inj I hl hqy]; exact hy
    · rw [show IsTupOf2 g2 ti (.ref i1) (.ref i2) = (g2.get? ti = _) from rfl, sb.2 ti D.TIz]
      exact hk _ _ D.TIz D.TITO D.TIi1 D.TIi2 h1
    · rw [show IsTupOf2 g2 to_ u' v' = (g2.get? to_ = _) from rfl, sb.2 to_ D.TOz]
      exact t1
    · exact Sk.it_keep s1.1 fun o e => by rw [sb.2 i1 D.i1z]; exact e
    · exact Sk.it_keep s2.1 fun o e => by rw [sb.2 i2 D.i2z]; exact e
    · have lt : c < s.heap.objs.size := by
        rcases five_mem hcm with e | e | e | e | e <;> rw [e]
        · exact hzl
        · exact Heap.lt_size h1
        · exact Heap.lt_size h2
        · obtain ⟨_, q, _⟩ := Sk.it_obj h3; exact Heap.lt_size q
        · obtain ⟨_, q, _⟩ := Sk.it_obj h4; exact Heap.lt_size q
      rw [upd_ne (Nat.ne_of_lt lt)]
      exact (hf c hcm).1
  · rintro X rfl rfl rfl hc i pins s σ H E I hf ⟨hz, h1, ⟨x0, y0, h2⟩, h3, h4⟩ ⟨xs, ys, hqx, hqy, le1, le2, hend⟩
    obtain ⟨its, rv, his⟩ := Sk.read I hqx
    obtain ⟨jts, rw_, hjs⟩ := Sk.read I hqy
    have e1 : xs.length = its.toArray.size := by rw [List.size_toArray]; exact rv.length
    have e2 : ys.length = jts.toArray.size := by rw [List.size_toArray]; exact rw_.length
    refine wpAny_pyNext_zipD2_end (zp_sep D) (k.draws (A := X.A.in1) (I.ok.hd hc) i1 a D.l1i1 its.toArray) (m.draws (A := X.A.in1) (I.ok.hd hc) i2 b D.l2i2 jts.toArray) hz h1 h2 ⟨h3, his⟩ ⟨h4, hjs⟩ (by omega) (by omega) (by omega) fun g tk hk => ⟨rfl, I.turnedL (ch := [z, ti, to_, i1, i2]) (fun c o hc2 q => ?_) hf⟩
    exact hk c o (fun e => hc2 (by rw [e]; simp)) (fun e => hc2 (by rw [e]; simp)) (fun e => hc2 (by rw [e]; simp)) (fun e => hc2 (by rw [e]; simp)) q
  · rintro A i s Q E ⟨hz, _⟩ q
    exact wpAny_pyIter_zip hz q
def iZp (K : PySem.W.Frag) (k m : Sk) (ta : TA) : L2.TI := fun σ H R => ta σ H fun vs H1 => ∃ a b xs ys, vs = [.ref a, .ref b] ∧ k.S K H1 a xs ∧ m.S K H1 b ys ∧ R (ZpI K k m a b) H1
theorem pi_zp {X : Cx} {K : PySem.W.Frag} {e e2 : Expr} {ta : TA} {p pos tpos : Pos} {elts : List Expr} {kk : Nat} (k m : Sk) (hK : X.K = K) (hg : Gl X "zip") (hm : X.mg "zip" = none) (ha : PA X [e, e2] ta)
    (hs : starEach [e, e2] X.env = (false, eval e X.env) :: starEach [e2] X.env := by rfl) (hpl : (backTo pos (starEach [e2] X.env)).any (·.1) = false := by rfl) :
    PI X (.Tuple elts kk tpos) (.Call (.Name "zip" p) [e, e2] [] pos) (iZp K k m ta) := by
  subst hK
  refine ⟨fun pins s σ H R I h => Call_ (ld_blt I hg hm PyProof.Rows.boot_zip (PyProof.Rows.callWith_type1 (thn (ha.run pos pins s σ H _ I h) fun us s1 ⟨vs, H1, I1, r1, q1⟩ => ?_) hs hpl))⟩
  obtain ⟨a, b, xs, ys, rfl, hqx, hqy, q⟩ := q1
  obtain ⟨u, v, rfl, ru, rv⟩ := vals2 r1
  cases ru
  cases rv
  obtain ⟨its, _, his⟩ := Sk.read I1 hqx
  obtain ⟨jts, _, hjs⟩ := Sk.read I1 hqy
  refine zip_begins2 (k.begins a its.toArray) (m.begins b jts.toArray) his hjs fun g hz h1 h2 h3 h4 hsz hk => wpAny_pyIter_zip hz ?_
  have I2 : Inv X pins σ H1 { s1 with heap := g } := I1.kept (t' := s1.toks) hk
  refine ⟨s1.heap.objs.size + 4, [s1.heap.objs.size + 4, s1.heap.objs.size + 2, s1.heap.objs.size + 3, s1.heap.objs.size, s1.heap.objs.size + 1], _, _, H1, rfl, I2, zp_turn k m (PySem.W.ktu_apart s1.heap.objs.size a b (Sk.is_lt his) (Sk.is_lt hjs)), ⟨hz, h1, ⟨_, _, h2⟩, Sk.it_new h3, Sk.it_new h4⟩, fun c hc => ?_, q⟩
  have le : s1.heap.objs.size ≤ c := by rcases five_mem hc with e | e | e | e | e <;> (rw [e]; first | exact Nat.le_refl _ | exact Nat.le_add_right _ _)
  exact I1.fpOk le (I1.hok.fresh le)
/-! ### their walks -/
theorem walk_en {K : PySem.W.Frag} {k : Sk} {a : Addr} {xs : List V} : Walk (EnI K k a) xs.length (fun H => k.S K H a xs) (YPair (fun i => some (.int (i : Nat))) (fun i => xs[i]?)) where
  goes := fun i H hi q => ⟨xs, xs[i], q, List.getElem?_eq_getElem hi⟩
  stops := fun H q => ⟨xs, q, rfl⟩
  yields := fun i H v H' hi q ⟨T, x, h1, h2, h3, h4⟩ => ⟨T, .int (i : Nat), x, h1, h2, h3, rfl, h4 xs q⟩
theorem walk_zp {K : PySem.W.Frag} {k m : Sk} {a b : Addr} {xs ys : List V} {n : Nat} (hn : n = min xs.length ys.length) : Walk (ZpI K k m a b) n (fun H => k.S K H a xs ∧ m.S K H b ys) (YPair (fun i => xs[i]?) (fun i => ys[i]?)) where
  goes := fun i H hi q => ⟨xs, ys, xs[i]'(by omega), ys[i]'(by omega), q.1, q.2, List.getElem?_eq_getElem (by omega), List.getElem?_eq_getElem (by omega)⟩
  stops := fun H q => ⟨xs, ys, q.1, q.2, by omega, by omega, by omega⟩
  yields := fun i H v H' hi q ⟨T, x, y, h1, h2, h3, h4, h5⟩ => ⟨T, x, y, h1, h2, h3, h4 xs q.1, h5 ys q.2⟩
/-! ### comprehensions over walks -/
section
variable {J J1 : L2.It} {n n1 : Nat} {G G1 : Hp → Prop} {Y Y1 : Nat → Hp → V → Hp → Prop} {g g1 : TG} {te : TE} {vs vs1 : List Nat} {σ σ2 : L2.St} {H1 H4 : Hp} {D : Addr} {Qd Nx : Hp → Prop} {wi1 : L2.TI}
theorem lc_itY (w : Walk J n G Y) (Pv : Nat → Hp → Prop) (h0 : Pv 0 (upd H1 D (.lst []))) (hG : ∀ i H, i ≤ n → Pv i H → G H)
    (hs : ∀ i x H H', i < n → Pv i H → Y i H x H' → g x (wipe σ vs) H' fun σ2 H2 => wipe σ2 vs = wipe σ vs ∧ te σ2 H2 fun y H4 => ∃ acc, H4 D = some (.lst acc) ∧ acc.length < sizeLine ∧ Pv (i + 1) (upd H4 D (.lst (acc ++ [y])))) (hd : ∀ H, Pv n H → Qd H) :
    ∃ W : Nat → Nat → Hp → Prop, (∃ m, W 0 m (upd H1 D (.lst []))) ∧ ∀ i m H, W i m H →
      (J.stop i H ∧ Qd H) ∨ (J.go i H ∧ ∃ Nx : Hp → Prop, (∀ H', Nx H' → ∃ m', m' < m ∧ W (i + 1) m' H') ∧ ∀ x H', J.yld i H x H' → g x (wipe σ vs) H' fun σ2 H2 => wipe σ2 vs = wipe σ vs ∧ tYes σ2 H2 fun b H3 =>
        if b = true then te σ2 H3 fun y H4 => ∃ acc, H4 D = some (.lst acc) ∧ acc.length < sizeLine ∧ Nx (upd H4 D (.lst (acc ++ [y]))) else Nx H3) := lc_it (tt := tYes) w Pv h0 hG hs hd
/-- the inner of two -/
def Lc2In (g1 : TG) (te : TE) (vs1 : List Nat) (σ2 : L2.St) (D : Addr) (Nx : Hp → Prop) (J1 : L2.It) (H4 : Hp) : Prop := ∃ W1 : Nat → Nat → Hp → Prop, (∃ m, W1 0 m H4) ∧ ∀ j k H, W1 j k H →
  (J1.stop j H ∧ Nx H) ∨ (J1.go j H ∧ ∃ Nx1 : Hp → Prop, (∀ H', Nx1 H' → ∃ k', k' < k ∧ W1 (j + 1) k' H') ∧ ∀ x H', J1.yld j H x H' → g1 x (wipe σ2 vs1) H' fun σ3 H5 => wipe σ3 vs1 = wipe σ2 vs1 ∧ tYes σ3 H5 fun b H6 =>
    if b = true then te σ3 H6 fun y H7 => ∃ acc, H7 D = some (.lst acc) ∧ acc.length < sizeLine ∧ Nx1 (upd H7 D (.lst (acc ++ [y]))) else Nx1 H6)
theorem lc2_in (w : Walk J1 n1 G1 Y1) (Pv : Nat → Hp → Prop) (h0 : Pv 0 H4) (hG : ∀ i H, i ≤ n1 → Pv i H → G1 H)
    (hs : ∀ i x H H', i < n1 → Pv i H → Y1 i H x H' → g1 x (wipe σ2 vs1) H' fun σ3 H5 => wipe σ3 vs1 = wipe σ2 vs1 ∧ te σ3 H5 fun y H7 => ∃ acc, H7 D = some (.lst acc) ∧ acc.length < sizeLine ∧ Pv (i + 1) (upd H7 D (.lst (acc ++ [y])))) (hd : ∀ H, Pv n1 H → Nx H) : Lc2In g1 te vs1 σ2 D Nx J1 H4 := by
  refine ⟨fun i m H => m = n1 - i ∧ i ≤ n1 ∧ Pv i H, ⟨n1, rfl, Nat.zero_le _, h0⟩, ?_⟩
  rintro i m H ⟨rfl, hi, p⟩
  by_cases lt : i < n1
  · exact .inr ⟨w.goes i H lt (hG i H hi p), Pv (i + 1), fun H' p' => ⟨n1 - (i + 1), by omega, rfl, lt, p'⟩, fun x H' y => hs i x H H' lt p (w.yields i H x H' lt (hG i H hi p) y)⟩
  · obtain rfl : i = n1 := by omega
    exact .inl ⟨w.stops H (hG _ H hi p), hd H p⟩
theorem lc2_out (w : Walk J n G Y) (Pv : Nat → Hp → Prop) (h0 : Pv 0 (upd H1 D (.lst []))) (hG : ∀ i H, i ≤ n → Pv i H → G H)
    (hs : ∀ i x H H', i < n → Pv i H → Y i H x H' → g x (wipe σ vs) H' fun σ2 H2 => wipe σ2 vs = wipe σ vs ∧ wi1 σ2 H2 fun J1 H4 => Lc2In g1 te vs1 σ2 D (Pv (i + 1)) J1 H4) (hd : ∀ H, Pv n H → Qd H) :
    ∃ W : Nat → Nat → Hp → Prop, (∃ m, W 0 m (upd H1 D (.lst []))) ∧ ∀ i m H, W i m H →
      (J.stop i H ∧ Qd H) ∨ (J.go i H ∧ ∃ Nx : Hp → Prop, (∀ H', Nx H' → ∃ m', m' < m ∧ W (i + 1) m' H') ∧ ∀ x H', J.yld i H x H' → g x (wipe σ vs) H' fun σ2 H2 => wipe σ2 vs = wipe σ vs ∧ tYes σ2 H2 fun b H3 =>
        if b = true then wi1 σ2 H3 fun J1 H4 => ∃ W1 : Nat → Nat → Hp → Prop, (∃ m, W1 0 m H4) ∧ ∀ j k H, W1 j k H →
          (J1.stop j H ∧ Nx H) ∨ (J1.go j H ∧ ∃ Nx1 : Hp → Prop, (∀ H', Nx1 H' → ∃ k', k' < k ∧ W1 (j + 1) k' H') ∧ ∀ x H', J1.yld j H x H' → g1 x (wipe σ2 vs1) H' fun σ3 H5 => wipe σ3 vs1 = wipe σ2 vs1 ∧ tYes σ3 H5 fun b H6 =>
            if b = true then te σ3 H6 fun y H7 => ∃ acc, H7 D = some (.lst acc) ∧ acc.length < sizeLine ∧ Nx1 (upd H7 D (.lst (acc ++ [y]))) else Nx1 H6)
        else Nx H3) := by
  refine ⟨fun i m H => m = n - i ∧ i ≤ n ∧ Pv i H, ⟨n, rfl, Nat.zero_le _, h0⟩, ?_⟩
  rintro i m H ⟨rfl, hi, p⟩
  by_cases lt : i < n
  · exact .inr ⟨w.goes i H lt (hG i H hi p), Pv (i + 1), fun H' p' => ⟨n - (i + 1), by omega, rfl, lt, p'⟩, fun x H' y => hs i x H H' lt p (w.yields i H x H' lt (hG i H hi p) y)⟩
  · obtain rfl : i = n := by omega
    exact .inl ⟨w.stops H (hG _ H hi p), hd H p⟩
end
end Ov

/-! ### the program's promises -/
namespace Ov
open PySem PySem.Spec PyProof.Rows L2
def spBetween : Sp := fun vs H Q _ => ∃ v lo hi : Int, vs = [.int v, .int lo, .int hi] ∧ Q (.bl (decide (lo ≤ v ∧ v ≤ hi))) H
/-- the word at a: its name, what is given, the arms -/
def WordAt (H : Hp) (a : Addr) (o : Op) (g : Int) (us : List V) : Prop := H a = some (.tup (.str o.name :: (o.pre g ++ us))) ∧ us.length = o.arity
def Op.gV (o : Op) (g : Int) : V := if o.gives then .int g else .non
def spGivenOf : Sp := fun vs H Q _ => ∃ a o g us, vs = [.ref a] ∧ WordAt H a o g us ∧ Q (o.gV g) H
def spArmsOf : Sp := fun vs H Q _ => ∃ a o g us, vs = [.ref a] ∧ WordAt H a o g us ∧ ∀ p, H p = none → Q (.ref p) (upd H p (.tup us))
def spGivenFits : Sp := fun vs H Q _ => ∃ (o : Op) (g : Int) (n : Nat), vs = [.str (if o = .num then "number" else "function"), .int g, .int (n : Int)] ∧ o.gives = true ∧ o.fits n g ∧ Q (.bl true) H
/-- the numbers of a word's arms, of which the first is b -/
def starts : Nat → List W → List Nat
  | _, [] => []
  | b, a :: r => b :: starts (b + a.size) r
mutual
/-- the rows of a word that is the b-th -/
def W.rows : Nat → W → List (Op × Int × List Nat)
  | b, .mk o g as => (o, g, starts (b + 1) as) :: W.rowss (b + 1) as
def W.rowss : Nat → List W → List (Op × Int × List Nat)
  | _, [] => []
  | b, a :: r => a.rows b ++ W.rowss (b + a.size) r
end
theorem W.rows_mk (b : Nat) (o : Op) (g : Int) (as : List W) : (W.mk o g as).rows b = (o, g, starts (b + 1) as) :: W.rowss (b + 1) as := by rw [W.rows]
mutual
theorem W.rows_len : ∀ (b : Nat) (w : W), (w.rows b).length = w.size
  | b, .mk o g as => by
    rw [W.rows_mk, W.size_mk, List.length_cons, W.rowss_len (b + 1) as]
    omega
theorem W.rowss_len : ∀ (b : Nat) (ws : List W), (W.rowss b ws).length = W.sizes ws
  | b, [] => by rw [W.rowss, W.sizes]; rfl
  | b, a :: r => by rw [W.rowss, W.sizes, List.length_append, W.rows_len b a, W.rowss_len _ r]
end
def RowAt (H : Hp) (v : V) (r : Op × Int × List Nat) : Prop := ∃ t a, v = .ref t ∧ H t = some (.tup [.str r.1.name, r.1.gV r.2.1, .ref a]) ∧ H a = some (.tup (nV r.2.2))
theorem RowAt.keep {H H' : Hp} {v : V} {r : Op × Int × List Nat} (k : Keep H H') (h : RowAt H v r) : RowAt H' v r := by
  obtain ⟨t, a, e, h1, h2⟩ := h
  exact ⟨t, a, e, k _ _ h1, k _ _ h2⟩
/-- all but the list at l stays -/
def ButL (l : Addr) (H H' : Hp) : Prop := ∀ a o, a ≠ l → H a = some o → H' a = some o
def spAddWord (d : Nat) : Sp := fun vs H Q _ => ∃ l v n u xs, vs = [.ref l, v] ∧ H l = some (.lst xs) ∧ WAt H v u ∧ WOk n d u ∧ xs.length + u.size ≤ 1000 ∧
  ∀ H' ys, ButL l H H' → H' l = some (.lst (xs ++ ys)) → Paired (RowAt H') ys (u.rows xs.length) → Q (.int (xs.length : Int)) H'
def spWordsOf : Sp := fun vs H Q _ => ∃ v n u, vs = [v] ∧ WAt H v u ∧ WOk n 7 u ∧ u.size ≤ 900 ∧ ∀ H' p ys, Same H H' → H p = none → H' p = some (.lst ys) → Paired (RowAt H') ys (u.rows 0) → Q (.ref p) H'
def spWordFits (d : Nat) : Sp := fun vs H Q _ => ∃ (v : V) (n : Nat) (u : W) (r : Int), vs = [v, .int (n : Int), .int r] ∧ WAt H v u ∧ WOk n d u ∧ 0 ≤ r ∧ r + (d : Int) ≤ 7 ∧ ∀ H', Same H H' → Q (.bl true) H'
def spFunctionFits : Sp := fun vs H Q _ => ∃ (v : V) (n : Nat) (f : Int × W), vs = [v, .int (n : Int)] ∧ FAt H v f ∧ FOk n f ∧ ∀ H', Same H H' → Q (.bl true) H'
def spCheckProgram : Sp := fun vs H Q _ => ∃ v p, vs = [v] ∧ PrAt H v p ∧ PrOk p ∧ ∀ H', Same H H' → Q .non H'
def spCheckFunction : Sp := fun vs H Q _ => ∃ (f n : Nat), vs = [.int (f : Int), .int (n : Int)] ∧ f < n ∧ Q .non H
theorem W.sizes_snoc : ∀ (ws : List W) (w : W), W.sizes (ws ++ [w]) = W.sizes ws + w.size
  | [], w => by simp [W.sizes]
  | a :: r, w => by rw [List.cons_append, W.sizes, W.sizes, W.sizes_snoc r w]; omega
theorem starts_snoc : ∀ (b : Nat) (ws : List W) (w : W), starts b (ws ++ [w]) = starts b ws ++ [b + W.sizes ws]
  | b, [], w => by rw [W.sizes]; rfl
  | b, a :: r, w => by
    show b :: starts (b + a.size) (r ++ [w]) = b :: (starts (b + a.size) r ++ [_])
    rw [starts_snoc (b + a.size) r w, W.sizes, Nat.add_assoc]
theorem rowss_snoc : ∀ (b : Nat) (ws : List W) (w : W), W.rowss b (ws ++ [w]) = W.rowss b ws ++ w.rows (b + W.sizes ws)
  | b, [], w => by rw [List.nil_append, W.rowss, W.rowss, W.rowss, W.sizes]; simp
  | b, a :: r, w => by rw [List.cons_append, W.rowss, W.rowss, rowss_snoc _ r w, W.sizes, List.append_assoc, Nat.add_assoc]
theorem starts_len : ∀ (b : Nat) (ws : List W), (starts b ws).length = ws.length
  | _, [] => rfl
  | b, a :: r => congrArg Nat.succ (starts_len (b + a.size) r)
theorem size_get : ∀ (ws : List W) (i : Nat) (w : W), ws[i]? = some w → W.sizes (ws.take i) + w.size ≤ W.sizes ws
  | [], i, w, h => by simp at h
  | a :: r, 0, w, h => by
    have e : a = w := Option.some.inj h
    rw [e, List.take_zero, W.sizes, W.sizes]
    omega
  | a :: r, i + 1, w, h => by
    have ih := size_get r i w h
    rw [List.take_succ_cons, W.sizes, W.sizes]
    omega
theorem ButL.trans {l : Addr} {H H1 H2 : Hp} (a : ButL l H H1) (b : ButL l H1 H2) : ButL l H H2 := fun x o n e => b x o n (a x o n e)
theorem ButL.same {l : Addr} {H H' : Hp} (a : Same H H') : ButL l H H' := fun x o _ e => a x o e
theorem ButL.upd {l : Addr} {H : Hp} {o : HO} : ButL l H (upd H l o) := fun x u n e => by rw [upd_ne n]; exact e
theorem ButL.keep {l : Addr} {xs : List V} {H H' : Hp} (b : ButL l H H') (e : H l = some (.lst xs)) : Keep H H' := fun a ys h => b a _ (ne_of h e (by intro z; cases z)) h
theorem paired_app {α β : Type} {R : α → β → Prop} : ∀ {a c : List α} {b d : List β}, Paired R a b → Paired R c d → Paired R (a ++ c) (b ++ d)
  | _, _, _, _, .nil, h => h
  | _, _, _, _, .cons h r, h' => .cons h (paired_app r h')
theorem Paired.get2 {α β : Type} {R : α → β → Prop} : ∀ {a : List α} {b : List β} {i : Nat} {x : α}, Paired R a b → a[i]? = some x → ∃ y, b[i]? = some y ∧ R x y
  | _, _, _, _, .nil, e => by simp at e
  | _, _, 0, _, .cons h r, e => by
    have e2 := Option.some.inj e
    subst e2
    exact ⟨_, rfl, h⟩
  | _, _, i + 1, x, .cons _ r, e => Paired.get2 (i := i) (x := x) r e
theorem set_mid (xs ys : List V) (x y : V) : (xs ++ [x] ++ ys).set xs.length y = xs ++ y :: ys := by
  rw [List.append_assoc, List.set_append_right (h := Nat.le_refl _), Nat.sub_self]
  rfl
end Ov

/-! ### ways down -/
namespace Ov
open PySem PySem.Spec PyProof.Rows L2
/-- under x lie l, from the undermost on -/
inductive Down (st : List Int) : Nat → List Nat → Prop
  | base {x : Nat} : st[x]? = some (-1) → Down st x []
  | step {x y : Nat} {l : List Nat} : st[x]? = some ((y : Nat) : Int) → Down st y l → Down st x (l ++ [y])
theorem Down.uniq {st : List Int} {x : Nat} {l m : List Nat} (h : Down st x l) (h' : Down st x m) : l = m := by
  induction h generalizing m with
  | base e =>
    cases h' with
    | base _ => rfl
    | @step _ y l e' _ =>
      have z := Option.some.inj (e.symm.trans e')
      omega
  | @step x y l e _ ih =>
    cases h' with
    | base e' =>
      have z := Option.some.inj (e'.symm.trans e)
      omega
    | @step _ y' l' e' h2 =>
      have z := Option.some.inj (e.symm.trans e')
      obtain rfl : y = y' := by omega
      rw [ih h2]
theorem SInv.down {od : List Nat} {st : List Int} (h : SInv od st) : ∀ (t x : Nat), od[t]? = some x → ∃ l, Down st x l ∧ l.length ≤ t ∧ ∀ y ∈ l, y ∈ od := by
  intro t
  induction t using Nat.strongRecOn with
  | ind t ih =>
    intro x hx
    rcases h t x hx with e | ⟨j, y, hj, hy, e⟩
    · exact ⟨[], .base e, Nat.zero_le _, (fun _ z => nomatch z)⟩
    · obtain ⟨l, h1, h2, h3⟩ := ih j hj y hy
      refine ⟨l ++ [y], .step e h1, by rw [List.length_append, List.length_singleton]; omega, fun z hz => ?_⟩
      rcases List.mem_append.mp hz with q | q
      · exact h3 z q
      · rw [List.mem_singleton.mp q]
        exact List.mem_of_getElem? hy
/-- the ways down of a tree's parts -/
structure Dn (n : Nat) (ps : List (List Nat)) (st : List Int) (dn : Nat → List Nat) : Prop where
  down : ∀ x, x < ps.length → Down st x (dn x)
  len : ∀ x, x < ps.length → (dn x).length < ps.length
  lt : ∀ x, x < ps.length → ∀ y ∈ dn x, y < ps.length
theorem TrOk.dn {n : Nat} {ps : List (List Nat)} {st : List Int} (h : TrOk n ps st) : ∃ dn, Dn n ps st dn := by
  obtain ⟨od, hp, hs⟩ := h.ord
  have key : ∀ x, ∃ l, x < ps.length → Down st x l ∧ l.length < ps.length ∧ ∀ y ∈ l, y < ps.length := fun x => by
    by_cases hx : x < ps.length
    · have mem : x ∈ od := hp.mem_iff.mpr (List.mem_range.mpr hx)
      obtain ⟨t, ht⟩ := List.mem_iff_getElem?.mp mem
      obtain ⟨l, h1, h2, h3⟩ := hs.down t x ht
      have htl : t < od.length := (List.getElem?_eq_some_iff.mp ht).1
      have hol : od.length = ps.length := by rw [hp.length_eq, List.length_range]
      exact ⟨l, fun _ => ⟨h1, by omega, fun y hy => List.mem_range.mp (hp.mem_iff.mp (h3 y hy))⟩⟩
    · exact ⟨[], fun z => absurd z hx⟩
  exact ⟨fun x => (key x).choose, ⟨fun x hx => ((key x).choose_spec hx).1, fun x hx => ((key x).choose_spec hx).2.1, fun x hx => ((key x).choose_spec hx).2.2⟩⟩
/-- the size of a function, of a part -/
def fsz (pr : List (Int × W)) (f : Nat) : Int := (pr[f]?.map (·.1)).getD 0
def psz (pr : List (Int × W)) (p : List Nat) : Int := (p.map (fsz pr)).sum
/-- where the i-th part begins -/
def bgn (pr : List (Int × W)) (ps : List (List Nat)) (dn : Nat → List Nat) (i : Nat) : Int := ((dn i).map fun y => psz pr (ps[y]?.getD [])).sum
theorem psz_snoc (pr : List (Int × W)) (p : List Nat) (f : Nat) : psz pr (p ++ [f]) = psz pr p + fsz pr f := by
  unfold psz
  rw [List.map_append, List.sum_append]
  simp
theorem cut_from (xs : List V) (k : Nat) (h : k ≤ xs.length) : cutV xs (some (k : Int)) none = xs.drop k := by
  unfold cutV
  rw [HT.sIx_none, HT.sIx_nat, Nat.min_eq_left h]
  exact List.take_of_length_le (by rw [List.length_drop]; exact Nat.le_refl _)
theorem nV_int {ns : List Nat} {i : Nat} {x : V} (h : (nV ns)[i]? = some x) : ∃ y, ns[i]? = some y ∧ x = V.int ((y : Nat) : Int) := by
  unfold nV at h
  rw [List.getElem?_map] at h
  cases e : ns[i]? with
  | none => rw [e] at h; cases h
  | some y => rw [e] at h; exact ⟨y, rfl, (Option.some.inj h).symm⟩
theorem ints_int {ns : List Int} {i : Nat} {x : V} (h : (ns.map V.int)[i]? = some x) : ∃ y, ns[i]? = some y ∧ x = V.int y := by
  rw [List.getElem?_map] at h
  cases e : ns[i]? with
  | none => rw [e] at h; cases h
  | some y => rw [e] at h; exact ⟨y, rfl, (Option.some.inj h).symm⟩
theorem nV_ints (ns : List Nat) : nV ns = (ns.map fun (x : Nat) => (x : Int)).map V.int := by
  unfold nV
  rw [List.map_map]
  rfl
theorem rep_all (n : Nat) : (List.replicate n true).all id = true := by simp
theorem rep_snoc (n : Nat) : (List.replicate n true).map V.bl ++ [V.bl true] = (List.replicate (n + 1) true).map V.bl := by
  rw [List.replicate_succ', List.map_append]
  rfl
theorem eqvIntsAll : ∀ ns : List Int, PyData.eqvAll (ns.map PyData.int) (ns.map PyData.int) = true
  | [] => by simp [PyData.eqvAll]
  | n :: ns => by
    have h := eqvIntsAll ns
    simp [PyData.eqvAll, PyData.eqv, h]
theorem eqvInts (ns : List Int) : PyData.eqv (.list (ns.map PyData.int)) (.list (ns.map PyData.int)) = true := by
  have h := eqvIntsAll ns
  simp [PyData.eqv, h]
theorem PInv.sorted {n : Nat} {ps : List (List Nat)} (h : PInv n ps) {ns : List Int} (hp : ns.Perm (ps.flatten.map fun (x : Nat) => (x : Int))) (hs : ns.Pairwise (· ≤ ·)) : ns = (List.range n).map fun (x : Nat) => (x : Int) := by
  refine PySem.W.ksm_same (hp.trans (h.perm.map _)) hs ?_
  rw [List.pairwise_map]
  exact List.Pairwise.imp (fun z => by omega) List.pairwise_lt_range
/-! ### the promises -/
def spRises : Sp := fun vs H Q _ => ∃ (a : Addr) (ns : List Nat), vs = [.ref a] ∧ (H a = some (.lst (nV ns)) ∨ (H a = some (.tup (nV ns)) ∧ ns ≠ [])) ∧ ns.Pairwise (· < ·) ∧ ns.length ≤ 1000 ∧ ∀ H', Same H H' → Q (.bl true) H'
def spPartFits : Sp := fun vs H Q _ => ∃ (v : V) (n : Nat) (p : List Nat), vs = [v, .int (n : Int)] ∧ PartAt H v p ∧ p ≠ [] ∧ p.Pairwise (· < ·) ∧ (∀ x ∈ p, x < n) ∧ p.length ≤ 8 ∧ ∀ H', Same H H' → Q (.bl true) H'
def spPartsFit : Sp := fun vs H Q _ => ∃ (a : Addr) (n : Nat) (us : List V) (ps : List (List Nat)), vs = [.ref a, .int (n : Int)] ∧ H a = some (.tup us) ∧ Paired (PartAt H) us ps ∧ PInv n ps ∧ n ≤ 8 ∧ ∀ H', Same H H' → Q (.bl true) H'
def spHasEnd : Sp := fun vs H Q _ => ∃ (a : Addr) (st : List Int) (x : Nat) (od : List Nat), vs = [.ref a, .int (x : Int)] ∧ H a = some (.tup (st.map V.int)) ∧ od.Perm (List.range st.length) ∧ SInv od st ∧ x < st.length ∧ st.length ≤ 1000 ∧ Q (.bl true) H
def spStandsFit : Sp := fun vs H Q _ => ∃ (a : Addr) (st : List Int) (m : Nat) (od : List Nat), vs = [.ref a, .int (m : Int)] ∧ H a = some (.tup (st.map V.int)) ∧ st.length = m ∧ od.Perm (List.range m) ∧ SInv od st ∧ m ≤ 1000 ∧ ∀ H', Same H H' → Q (.bl true) H'
/-- a program and a tree of it -/
def preT (H : Hp) (v t : V) (pr : List (Int × W)) (ps : List (List Nat)) (st : List Int) : Prop := PrAt H v pr ∧ PrOk pr ∧ TrAt H t ps st ∧ TrOk pr.length ps st
theorem preT.keep {H H' : Hp} {v t : V} {pr : List (Int × W)} {ps : List (List Nat)} {st : List Int} (k : Keep H H') (h : preT H v t pr ps st) : preT H' v t pr ps st := ⟨h.1.keep k, h.2.1, h.2.2.1.keep k, h.2.2.2⟩
def spCheckTree : Sp := fun vs H Q _ => ∃ v t pr ps st, vs = [v, t] ∧ preT H v t pr ps st ∧ ∀ H', Same H H' → Q .non H'
def spPartsBelow : Sp := fun vs H Q _ => ∃ (a : Addr) (st : List Int) (x : Nat) (l : List Nat), vs = [.ref a, .int (x : Int)] ∧ H a = some (.tup (st.map V.int)) ∧ Down st x l ∧ l.length ≤ 900 ∧ ∀ H' p, Same H H' → H p = none → H' p = some (.lst (nV l)) → Q (.ref p) H'
def spSizeOf : Sp := fun vs H Q _ => ∃ v u pr p, vs = [v, u] ∧ PrAt H v pr ∧ PartAt H u p ∧ (∀ x ∈ p, x < pr.length) ∧ p.length ≤ 900 ∧ ∀ H', Same H H' → Q (.int (psz pr p)) H'
def spBegins : Sp := fun vs H Q _ => ∃ v t pr ps st dn, vs = [v, t] ∧ preT H v t pr ps st ∧ Dn pr.length ps st dn ∧ ∀ H' p, Same H H' → H p = none → H' p = some (.lst (((List.range ps.length).map (bgn pr ps dn)).map V.int)) → Q (.ref p) H'
/-- the cells of all functions -/
def Cells (pr : List (Int × W)) (ps : List (List Nat)) (dn : Nat → List Nat) (cs : List Int) : Prop := cs.length = pr.length ∧ ∀ i p j f, ps[i]? = some p → p[j]? = some f → cs[f]? = some (bgn pr ps dn i + psz pr (p.take j))
def spPlaces : Sp := fun vs H Q _ => ∃ v t pr ps st dn, vs = [v, t] ∧ preT H v t pr ps st ∧ Dn pr.length ps st dn ∧ ∀ H' p cs, Same H H' → H p = none → H' p = some (.lst (cs.map V.int)) → Cells pr ps dn cs → Q (.ref p) H'
/-- the farthest end -/
def Far (pr : List (Int × W)) (ps : List (List Nat)) (dn : Nat → List Nat) (m : Int) : Prop := (∃ i p, ps[i]? = some p ∧ m = bgn pr ps dn i + psz pr p) ∧ ∀ i p, ps[i]? = some p → bgn pr ps dn i + psz pr p ≤ m
theorem Far.uniq {pr : List (Int × W)} {ps : List (List Nat)} {dn : Nat → List Nat} {m k : Int} (h : Far pr ps dn m) (h' : Far pr ps dn k) : m = k := by
  obtain ⟨⟨i, p, h1, h2⟩, h3⟩ := h
  obtain ⟨⟨j, q, h4, h5⟩, h6⟩ := h'
  have a := h3 j q h4
  have b := h6 i p h1
  omega
def spWanted : Sp := fun vs H Q _ => ∃ v t pr ps st dn, vs = [v, t] ∧ preT H v t pr ps st ∧ Dn pr.length ps st dn ∧ ∀ H' m, Same H H' → Far pr ps dn m → Q (.int m) H'
def spWayOf : Sp := fun vs H Q _ => ∃ (t : V) (n : Nat) (ps : List (List Nat)) (st : List Int) (dn : Nat → List Nat) (f i : Nat) (pt : List Nat), vs = [t, .int (f : Int)] ∧ TrAt H t ps st ∧ TrOk n ps st ∧ n ≤ 8 ∧ Dn n ps st dn ∧ ps[i]? = some pt ∧ f ∈ pt ∧
  ∀ H' p, Same H H' → H p = none → H' p = some (.lst (nV (dn i ++ [i]))) → Q (.ref p) H'
end Ov

/-! ### more on ways down -/
namespace Ov
open PySem PySem.Spec PyProof.Rows L2
theorem Down.get {st : List Int} {x : Nat} {l : List Nat} (h : Down st x l) : ∃ z, st[x]? = some z := by
  cases h with
  | base e => exact ⟨_, e⟩
  | step e _ => exact ⟨_, e⟩
theorem Paired.got {α β : Type} {R : α → β → Prop} : ∀ {a : List α} {b : List β} {i : Nat} {y : β}, Paired R a b → b[i]? = some y → ∃ x, a[i]? = some x ∧ R x y
  | _, _, 0, y, .cons h _, e => by
    obtain rfl := Option.some.inj e
    exact ⟨_, rfl, h⟩
  | _, _, i + 1, y, .cons _ r, e => Paired.got (i := i) (y := y) r e
theorem rep_v (x : V) (m : Nat) : (List.replicate ((m : Nat) : Int).toNat [x]).flatten = List.replicate m x := by
  rw [Int.toNat_natCast]
  induction m with
  | zero => rfl
  | succ m ih =>
    show [x] ++ (List.replicate m [x]).flatten = _
    rw [ih]
    rfl
/-- each function stands at one place of one part -/
theorem PInv.uniq {n : Nat} {ps : List (List Nat)} (h : PInv n ps) {i i' j j' f : Nat} {p p' : List Nat} (e1 : ps[i]? = some p) (e2 : p[j]? = some f) (e3 : ps[i']? = some p') (e4 : p'[j']? = some f) : i = i' ∧ j = j' := by
  have nd : ps.flatten.Nodup := h.perm.nodup_iff.mpr List.nodup_range
  unfold List.Nodup at nd
  rw [List.pairwise_flatten] at nd
  obtain ⟨hi, d1⟩ := List.getElem?_eq_some_iff.mp e1
  obtain ⟨hi', d3⟩ := List.getElem?_eq_some_iff.mp e3
  have m1 := List.mem_of_getElem? e2
  have m2 := List.mem_of_getElem? e4
  have ii : i = i' := by
    rcases Nat.lt_trichotomy i i' with lt | eq | gt
    · have z := List.pairwise_iff_getElem.mp nd.2 i i' hi hi' lt
      rw [d1, d3] at z
      exact absurd rfl (z f m1 f m2)
    · exact eq
    · have z := List.pairwise_iff_getElem.mp nd.2 i' i hi' hi gt
      rw [d1, d3] at z
      exact absurd rfl (z f m2 f m1)
  subst ii
  obtain rfl : p = p' := Option.some.inj (e1.symm.trans e3)
  obtain ⟨hj, d2⟩ := List.getElem?_eq_some_iff.mp e2
  obtain ⟨hj', d4⟩ := List.getElem?_eq_some_iff.mp e4
  have r := h.rise p (List.mem_of_getElem? e1)
  refine ⟨rfl, ?_⟩
  rcases Nat.lt_trichotomy j j' with lt | eq | gt
  · have z := List.pairwise_iff_getElem.mp r j j' hj hj' lt
    omega
  · exact eq
  · have z := List.pairwise_iff_getElem.mp r j' j hj' hj gt
    omega
theorem PInv.stands {n : Nat} {ps : List (List Nat)} (h : PInv n ps) {f : Nat} (hf : f < n) : ∃ (i : Nat) (p : List Nat) (j : Nat), ps[i]? = some p ∧ p[j]? = some f := by
  obtain ⟨p, hp, hm⟩ := List.mem_flatten.mp (h.perm.mem_iff.mpr (List.mem_range.mpr hf))
  obtain ⟨i, hi⟩ := List.mem_iff_getElem?.mp hp
  obtain ⟨j, hj⟩ := List.mem_iff_getElem?.mp hm
  exact ⟨i, p, j, hi, hj⟩
/-- a row that is filled part by part -/
def Fill {α : Type} (n : Nat) (ps : List (List Nat)) (R : Nat → Nat → α → Prop) (i j : Nat) (cs : List α) : Prop := cs.length = n ∧ ∀ i' p j' f, ps[i']? = some p → p[j']? = some f → (i' < i ∨ (i' = i ∧ j' < j)) → ∃ x, cs[f]? = some x ∧ R i' j' x
theorem Fill.start {α : Type} {n : Nat} {ps : List (List Nat)} {R : Nat → Nat → α → Prop} {cs : List α} (h : cs.length = n) : Fill n ps R 0 0 cs := ⟨h, fun _ _ _ _ _ _ z => by omega⟩
theorem Fill.mono {α : Type} {n : Nat} {ps : List (List Nat)} {R R' : Nat → Nat → α → Prop} {i j : Nat} {cs : List α} (h : Fill n ps R i j cs) (m : ∀ a b x, R a b x → R' a b x) : Fill n ps R' i j cs := ⟨h.1, fun i' p j' f e1 e2 z => by
  obtain ⟨x, h1, h2⟩ := h.2 i' p j' f e1 e2 z
  exact ⟨x, h1, m _ _ _ h2⟩⟩
theorem Fill.step {α : Type} {n : Nat} {ps : List (List Nat)} {R : Nat → Nat → α → Prop} {i j f : Nat} {p : List Nat} {cs : List α} {x : α} (h : Fill n ps R i j cs) (hp : PInv n ps) (e1 : ps[i]? = some p) (e2 : p[j]? = some f) (r : R i j x) : Fill n ps R i (j + 1) (cs.set f x) := by
  refine ⟨by rw [List.length_set]; exact h.1, fun i' p' j' f' d1 d2 z => ?_⟩
  by_cases e : f = f'
  · subst e
    obtain ⟨rfl, rfl⟩ := hp.uniq e1 e2 d1 d2
    have lf : f < cs.length := by rw [h.1]; exact hp.lt (List.mem_of_getElem? e1) (List.mem_of_getElem? e2)
    exact ⟨x, List.getElem?_set_self lf, r⟩
  · rw [List.getElem?_set_ne e]
    refine h.2 i' p' j' f' d1 d2 ?_
    rcases z with z | ⟨rfl, z⟩
    · exact .inl z
    · refine .inr ⟨rfl, ?_⟩
      by_cases ej : j' = j
      · subst ej
        obtain rfl : p = p' := Option.some.inj (e1.symm.trans d1)
        exact absurd (Option.some.inj (e2.symm.trans d2)) e
      · omega
theorem Fill.next {α : Type} {n : Nat} {ps : List (List Nat)} {R : Nat → Nat → α → Prop} {i : Nat} {p : List Nat} {cs : List α} (h : Fill n ps R i p.length cs) (e1 : ps[i]? = some p) : Fill n ps R (i + 1) 0 cs := ⟨h.1, fun i' p' j' f d1 d2 z => by
  refine h.2 i' p' j' f d1 d2 ?_
  by_cases e : i' = i
  · subst e
    obtain rfl : p = p' := Option.some.inj (e1.symm.trans d1)
    exact .inr ⟨rfl, (List.getElem?_eq_some_iff.mp d2).1⟩
  · omega⟩
theorem Fill.all {α : Type} {n : Nat} {ps : List (List Nat)} {R : Nat → Nat → α → Prop} {cs : List α} (h : Fill n ps R ps.length 0 cs) : cs.length = n ∧ ∀ i p j f, ps[i]? = some p → p[j]? = some f → ∃ x, cs[f]? = some x ∧ R i j x := ⟨h.1, fun i p j f d1 d2 => h.2 i p j f d1 d2 (.inl (List.getElem?_eq_some_iff.mp d1).1)⟩
/-- the cell of the j-th function of the i-th part -/
def IsCell (pr : List (Int × W)) (ps : List (List Nat)) (dn : Nat → List Nat) : Nat → Nat → Int → Prop := fun i j x => x = bgn pr ps dn i + psz pr ((ps[i]?.getD []).take j)
theorem Fill.cells {pr : List (Int × W)} {ps : List (List Nat)} {dn : Nat → List Nat} {cs : List Int} (h : Fill pr.length ps (IsCell pr ps dn) ps.length 0 cs) : Cells pr ps dn cs := by
  obtain ⟨h1, h2⟩ := h.all
  refine ⟨h1, fun i p j f d1 d2 => ?_⟩
  obtain ⟨x, e, r⟩ := h2 i p j f d1 d2
  rw [e, r, d1]
  rfl
theorem Cells.uniq {pr : List (Int × W)} {ps : List (List Nat)} {dn : Nat → List Nat} {cs cs' : List Int} (hp : PInv pr.length ps) (h : Cells pr ps dn cs) (h' : Cells pr ps dn cs') : cs = cs' := by
  refine List.ext_getElem? fun f => ?_
  by_cases hf : f < pr.length
  · obtain ⟨i, p, j, e1, e2⟩ := hp.stands hf
    rw [h.2 i p j f e1 e2, h'.2 i p j f e1 e2]
  · rw [List.getElem?_eq_none (by rw [h.1]; omega), List.getElem?_eq_none (by rw [h'.1]; omega)]
theorem ixN_nat {n k : Nat} (h : k < n) : ixN n (k : Int) = some k := by
  unfold ixN
  rw [if_pos (by omega), if_pos (by omega), Int.toNat_natCast]
theorem inVnat (f : Nat) (p : List Nat) : inV (.int (f : Int)) (nV p) = decide (f ∈ p) := by
  unfold inV nV
  rw [List.any_map, Bool.eq_iff_iff, List.any_eq_true, decide_eq_true_iff]
  constructor
  · rintro ⟨y, hy, e⟩
    have e' : ((y : Nat) : Int) = (f : Int) := by simpa [eqV] using e
    obtain rfl : y = f := by omega
    exact hy
  · intro h
    exact ⟨f, h, by simp [eqV]⟩
theorem nVflat (p : List Nat) : (nV p).all flatV = true := by
  unfold nV
  rw [List.all_map, List.all_eq_true]
  intro x _
  rfl
theorem bgn_psz {pr : List (Int × W)} {ps : List (List Nat)} {dn : Nat → List Nat} {i : Nat} : (((dn i ++ [i]).map fun y => psz pr (ps[y]?.getD []))).sum = bgn pr ps dn i + psz pr (ps[i]?.getD []) := by
  unfold bgn
  rw [List.map_append, List.sum_append]
  simp
theorem LsAt.snoc {H : Hp} {bs : List Addr} {qs : List (List Nat)} {b : Addr} {q : List Nat} (h : LsAt H bs qs) (e : H b = some (.lst (nV q))) : LsAt H (bs ++ [b]) (qs ++ [q]) := Paired.snoc h e
/-- a law over one list of at most 63 ints -/
def spLaw (K : PySem.W.Frag) : Sp := fun vs H Q _ => ∃ (a : Addr) (ns : List Int), vs = [.ref a] ∧ SqL K H a (ns.map V.int) ∧ ns.length ≤ 63 ∧ ∀ H', Q (.bl true) H'
end Ov

/-! ### runs as data -/
namespace Ov
open PySem PySem.Spec PyProof.Rows L2
/-- what a word comes to -/
inductive Wt where
  | num (z : Int) | way (f : Nat)
inductive Flt where
  | kind | deep | long
def Flt.name : Flt → Str
  | .kind => "kind" | .deep => "deep" | .long => "long"
/-- how far a run is -/
structure RS where
  said : List Int
  calls : Nat
  row : List Nat
  came : List (Nat × Wt)
  told : List (Nat × Wt)
inductive Res where
  | ok (v : Wt) (s : RS) | bad (f : Flt) (s : RS)
def Res.bind (r : Res) (k : Wt → RS → Res) : Res := match r with
  | .ok v s => k v s
  | .bad f s => .bad f s
def WtOk (n : Nat) : Wt → Prop
  | .num z => 0 ≤ z ∧ z < 1000
  | .way f => f < n
def evArms (ev : W → RS → Res) : List W → List Wt → RS → (List Wt → RS → Res) → Res
  | [], acc, s, k => k acc s
  | w :: ws, acc, s, k => (ev w s).bind fun v s => evArms ev ws (acc ++ [v]) s k
def fin (call : Nat → Wt → RS → Res) (o : Op) (g : Int) (vs : List Wt) (s : RS) : Res := match o, vs with
  | .thn, [_, v] => .ok v s
  | .say, [.num z] => .ok (.num z) { s with said := s.said ++ [z] }
  | .call, [v] => call g.toNat v s
  | .through, [.way f, u] => call f u s
  | .plus, [.num x, .num y] => .ok (.num ((x + y) % 1000)) s
  | .less, [.num x, .num y] => .ok (.num ((x - y) % 1000)) s
  | .times, [.num x, .num y] => .ok (.num ((x * y) % 1000)) s
  | _, _ => .bad .kind s
/-- a word's going: calls as given, the argument a, words at most d within one another -/
def evB (call : Nat → Wt → RS → Res) (a : Wt) : Nat → W → RS → Res
  | 0, _, s => .bad .kind s
  | d + 1, .mk o g as, s => match o with
    | .num => .ok (.num g) s
    | .way => .ok (.way g.toNat) s
    | .arg => .ok a s
    | .ife => match as with
      | [t, x, y] => (evB call a d t s).bind fun v s => match v with
        | .way _ => .bad .kind s
        | .num z => if z ≠ 0 then evB call a d x s else evB call a d y s
      | _ => .bad .kind s
    | o => evArms (evB call a d) as [] s (fin call o g)
/-- a call's going: n more within one another, who calls, who is called -/
def evC (pr : List (Int × W)) : Nat → Nat → Nat → Wt → RS → Res
  | 0, _, _, _, s => .bad .deep s
  | n + 1, c, f, a, s => if 200 ≤ s.calls then .bad .long s else
    match pr[f]? with
    | none => .bad .kind s
    | some p => (evB (evC pr n f) a 7 p.2 { s with calls := s.calls + 1, row := s.row ++ [f], came := s.came ++ [(f, a)] }).bind fun v s => .ok v { s with row := s.row ++ [c], told := s.told ++ [(f, v)] }
/-- a whole run -/
def evR (pr : List (Int × W)) (z : Int) : Res := match pr[0]? with
  | none => .bad .kind ⟨[], 0, [0], [], []⟩
  | some p => (evB (evC pr 12 0) (.num z) 7 p.2 ⟨[], 0, [0], [(0, .num z)], []⟩).bind fun v s => .ok v { s with told := s.told ++ [(0, v)] }
/-- the law's record of a run: the dict, its lists -/
structure RA where
  r : Addr
  sa : Addr
  tr : Addr
  ca : Addr
  to : Addr
  ah : Addr
  ba : Addr
/-- how much may still be laid down -/
def RS.phi (s : RS) : Nat := s.said.length + s.row.length + s.came.length + s.told.length + 44 * (200 - s.calls)
def Good (n b : Nat) : Res → Prop
  | .ok v s => WtOk n v ∧ s.phi ≤ b
  | .bad _ s => s.phi ≤ b
theorem Good.le {n b c : Nat} (le : b ≤ c) : ∀ {r : Res}, Good n b r → Good n c r
  | .ok _ _, h => ⟨h.1, Nat.le_trans h.2 le⟩
  | .bad _ _, h => Nat.le_trans (show _ ≤ b from h) le
theorem Good.bind {n b c : Nat} (le : b ≤ c) {k : Wt → RS → Res} : ∀ {r : Res}, Good n b r → (∀ v s, WtOk n v → s.phi ≤ b → Good n c (k v s)) → Good n c (r.bind k)
  | .ok v s, h, hk => hk v s h.1 h.2
  | .bad _ _, h, _ => Nat.le_trans (show _ ≤ b from h) le
theorem evArms_good {n : Nat} {ev : W → RS → Res} {k : List Wt → RS → Res} {c : Nat} : ∀ (ws : List W) (acc : List Wt) (s : RS), (∀ w ∈ ws, ∀ s, Good n (s.phi + w.size) (ev w s)) → s.phi + W.sizes ws ≤ c → (∀ v ∈ acc, WtOk n v) →
    (∀ vs s, vs.length = acc.length + ws.length → (∀ v ∈ vs, WtOk n v) → s.phi ≤ c → Good n (c + 1) (k vs s)) → Good n (c + 1) (evArms ev ws acc s k)
  | [], acc, s, _, hs, ha, hk => by
    rw [W.sizes] at hs
    exact hk acc s rfl ha hs
  | w :: ws, acc, s, he, hs, ha, hk => by
    rw [W.sizes] at hs
    refine Good.bind (b := s.phi + w.size) (by omega) (he w List.mem_cons_self s) fun v s' hv hs' => ?_
    refine evArms_good ws (acc ++ [v]) s' (fun u hu => he u (List.mem_cons_of_mem _ hu)) (by omega) (fun u hu => ?_) fun vs s2 hl h1 h2 => hk vs s2 (by rw [hl, List.length_append, List.length_singleton, List.length_cons]; omega) h1 h2
    rcases List.mem_append.mp hu with h | h
    · exact ha u h
    · rw [List.mem_singleton.mp h]
      exact hv
theorem fin_good {n : Nat} {call : Nat → Wt → RS → Res} (hc : ∀ f u s, f < n → WtOk n u → Good n s.phi (call f u s)) {o : Op} {g : Int} (hg : o.fits n g) {vs : List Wt} {s : RS} {c : Nat} (hv : ∀ v ∈ vs, WtOk n v) (hs : s.phi ≤ c) : Good n (c + 1) (fin call o g vs s) := by
  have md : ∀ z : Int, WtOk n (.num (z % 1000)) := fun z => ⟨Int.emod_nonneg _ (by decide), Int.emod_lt_of_pos _ (by decide)⟩
  unfold fin
  split
  · exact ⟨hv _ (by simp), by omega⟩
  · refine ⟨hv _ (by simp), ?_⟩
    unfold RS.phi at hs ⊢
    simp only [List.length_append, List.length_singleton]
    omega
  · have h := hg
    exact Good.le (by omega) (hc _ _ _ (by have : 0 ≤ g ∧ g < n := h; omega) (hv _ (by simp)))
  · rename_i f u
    exact Good.le (by omega) (hc _ _ _ (hv (.way f) (by simp)) (hv _ (by simp)))
  · exact ⟨md _, by omega⟩
  · exact ⟨md _, by omega⟩
  · exact ⟨md _, by omega⟩
  · show s.phi ≤ c + 1
    omega
theorem evB_good {n : Nat} {call : Nat → Wt → RS → Res} (hc : ∀ f u s, f < n → WtOk n u → Good n s.phi (call f u s)) {a : Wt} (ha : WtOk n a) : ∀ (d : Nat) (w : W) (s : RS), WOk n d w → Good n (s.phi + w.size) (evB call a d w s) := by
  intro d
  induction d with
  | zero => exact fun w s h => absurd h wok0
  | succ d ih =>
    intro w s h
    cases h with
    | @mk _ o g as h1 h2 h3 =>
    rw [W.size_mk]
    have gen : Good n (s.phi + (1 + W.sizes as)) (evArms (evB call a d) as [] s (fin call o g)) := by
      rw [show s.phi + (1 + W.sizes as) = s.phi + W.sizes as + 1 by omega]
      exact evArms_good as [] s (fun w hw s => ih w s (h3 w hw)) (Nat.le_refl _) (fun _ z => nomatch z) fun vs s2 _ h4 h5 => fin_good hc h2 h4 h5
    cases o with
    | num => exact ⟨⟨h2.1, by have : 0 ≤ g ∧ g ≤ 99 := h2; omega⟩, by omega⟩
    | way => exact ⟨(by have : 0 ≤ g ∧ g < n := h2; show g.toNat < n; omega), by omega⟩
    | arg => exact ⟨ha, by omega⟩
    | ife =>
      match as, h1, h3 with
      | [t, x, y], _, h3 =>
        simp only [W.sizes]
        refine Good.bind (b := s.phi + t.size) (by omega) (ih t s (h3 t (by simp))) fun v s' hv hs' => ?_
        cases v with
        | way f => show s'.phi ≤ _; omega
        | num z =>
          show Good n _ (if z ≠ 0 then _ else _)
          split
          · exact Good.le (by omega) (ih x s' (h3 x (by simp)))
          · exact Good.le (by omega) (ih y s' (h3 y (by simp)))
    | plus => exact gen
    | less => exact gen
    | times => exact gen
    | thn => exact gen
    | say => exact gen
    | call => exact gen
    | through => exact gen
theorem evC_good {pr : List (Int × W)} (hp : PrOk pr) : ∀ (n c f : Nat) (u : Wt) (s : RS), f < pr.length → WtOk pr.length u → Good pr.length s.phi (evC pr n c f u s)
  | 0, _, _, _, s, _, _ => Nat.le_refl _
  | n + 1, c, f, u, s, hf, hu => by
    rw [evC]
    by_cases h : 200 ≤ s.calls
    · rw [if_pos h]
      exact Nat.le_refl _
    · rw [if_neg h, List.getElem?_eq_getElem hf]
      have hb := hp.f _ (List.getElem_mem hf)
      have g := evB_good (n := pr.length) (call := evC pr n f) (a := u) (fun f' u' s' h1 h2 => evC_good hp n f f' u' s' h1 h2) hu 7 (pr[f]).2 { s with calls := s.calls + 1, row := s.row ++ [f], came := s.came ++ [(f, u)] } hb.2.2.1
      have e : ({ s with calls := s.calls + 1, row := s.row ++ [f], came := s.came ++ [(f, u)] } : RS).phi + (pr[f]).2.size ≤ s.phi - 2 ∧ 2 ≤ s.phi := by
        have := hb.2.2.2
        unfold RS.phi
        simp only [List.length_append, List.length_singleton]
        omega
      refine Good.bind (b := s.phi - 2) (by omega) (Good.le e.1 g) fun v s' hv hs' => ⟨hv, ?_⟩
      unfold RS.phi at hs' ⊢
      simp only [List.length_append, List.length_singleton]
      unfold RS.phi at e
      omega
def most : Nat := 1000000
theorem hu65 {k : Nat} {A : Around} (hr : Room k A) : A.units + 65 < cLine := by
  have := hr.un
  omega
theorem pairShaped (a b : Int) : SeqAt.shaped (.tuple [.int a, .int b]) = true := by
  simp [SeqAt.shaped, PyData.depth, PyData.depthAll, PyData.canLay0, PyData.canLayAll0]
theorem two_of {α β : Type} {R : α → β → Prop} {ls : List α} {acc : List β} (h : Paired R ls acc) (e : acc.length = 2) : ∃ x y a b, ls = [x, y] ∧ acc = [a, b] ∧ R x a ∧ R y b := by
  match acc, h, e with
  | [a, b], .cons h1 (.cons h2 .nil), _ => exact ⟨_, _, a, b, rfl, rfl, h1, h2⟩
theorem one_of {α β : Type} {R : α → β → Prop} {ls : List α} {acc : List β} (h : Paired R ls acc) (e : acc.length = 1) : ∃ x a, ls = [x] ∧ acc = [a] ∧ R x a := by
  match acc, h, e with
  | [a], .cons h1 .nil, _ => exact ⟨_, a, rfl, rfl, h1⟩
theorem evB_gen {call : Nat → Wt → RS → Res} {a : Wt} {d : Nat} {o : Op} {g : Int} {as : List W} {s : RS} (n1 : o ≠ .num) (n2 : o ≠ .way) (n3 : o ≠ .arg) (n4 : o ≠ .ife) : evB call a (d + 1) (.mk o g as) s = evArms (evB call a d) as [] s (fin call o g) := by
  cases o <;> first | rfl | contradiction
theorem fin_bad {call : Nat → Wt → RS → Res} {o : Op} {g : Int} {acc : List Wt} {s : RS} {f : Nat} (h : Wt.way f ∈ acc) (l : acc.length ≤ 2) (ho : o = .say ∨ o = .plus ∨ o = .less ∨ o = .times) : fin call o g acc s = .bad .kind s := by
  match acc, l with
  | [], _ => cases h
  | [a], _ =>
    obtain rfl : a = .way f := (List.mem_singleton.mp h).symm
    rcases ho with rfl | rfl | rfl | rfl <;> rfl
  | [a, c], _ =>
    have h' : a = .way f ∨ c = .way f := by
      rcases List.mem_cons.mp h with e | e
      · exact .inl e.symm
      · exact .inr (List.mem_singleton.mp e).symm
    rcases h' with rfl | rfl
    · rcases ho with rfl | rfl | rfl | rfl <;> rfl
    · rcases ho with rfl | rfl | rfl | rfl <;> cases a <;> rfl
  | _ :: _ :: _ :: _, l =>
    simp only [List.length_cons] at l
    omega
def ifK (ex ey : RS → Res) : Wt → RS → Res := fun v s => match v with
  | .way _ => .bad .kind s
  | .num z => if z ≠ 0 then ex s else ey s
theorem evB_if {call : Nat → Wt → RS → Res} {a : Wt} {d : Nat} {g : Int} {wt wx wy : W} {s : RS} : evB call a (d + 1) (.mk .ife g [wt, wx, wy]) s = (evB call a d wt s).bind (ifK (evB call a d wx) (evB call a d wy)) := rfl
theorem three_of {α : Type} {l : List α} (h : l.length = 3) : ∃ a b c, l = [a, b, c] := by
  match l, h with
  | [a, b, c], _ => exact ⟨a, b, c, rfl⟩
end Ov

/-! ### d.update(e), of dicts -/
namespace Ov
open PySem PySem.Spec PyProof.Rows L2
section
variable {X : Cx} {pins : List (Addr × Obj)} {σ : L2.St} {H : Hp} {s : Shared} {a b : Addr} {kvs more : List (Key × V)} {A : Around} {E : Value → Shared → Prop}
end
theorem pe_fldK {X : Cx} {K : PySem.W.Frag} {e : Expr} {f : Str} {pos : Pos} {ta : TE} (hK : X.K = K) (h : PE X e ta) (hb : attributeBase e f X.env (eval e X.env) = eval e X.env) : PE X (.Attribute e f pos) (tFld K ta f) := by
  subst hK
  exact pe_fld h hb
/-- how a run ends, told -/
def endD : Res → Str × V
  | .ok (.num z) _ => ("number", .int z)
  | .ok (.way f) _ => ("way", .int (f : Int))
  | .bad f _ => ("fault", .str f.name)
def Res.st : Res → RS
  | .ok _ s => s
  | .bad _ s => s
def spNumber : Sp := fun vs H Q _ => ∃ h c, vs = [.ref h] ∧ Dr H h c ∧ ∀ (z : Int) H', 0 ≤ z → z < 1000 → But h c H H' → Dr H' h c → Q (.int z) H'
/-! ### the program's side of runs -/
theorem PairedMem.map {α β : Type} {R R' : α → β → Prop} : ∀ {l : List α} {m : List β}, Paired R l m → (∀ a b, a ∈ l → R a b → R' a b) → Paired R' l m
  | _, _, .nil, _ => .nil
  | _, _, .cons h r, f => .cons (f _ _ List.mem_cons_self h) (PairedMem.map r fun a b m => f a b (List.mem_cons_of_mem _ m))
theorem PairedMem.left {α β : Type} {R : α → β → Prop} : ∀ {l : List α} {m : List β}, Paired R l m → ∀ a ∈ l, ∃ b, R a b
  | _, _, .cons h r, a, ha => by
    rcases List.mem_cons.mp ha with rfl | ha
    · exact ⟨_, h⟩
    · exact PairedMem.left r a ha
/-- the rows of a body, at b -/
def BodyAt (H : Hp) (b : Addr) (f : Int × W) : Prop := ∃ ys, H b = some (.lst ys) ∧ Paired (RowAt H) ys (f.2.rows 0)
theorem BodyAt.same {H H' : Hp} {b : Addr} {f : Int × W} (s : Same H H') (h : BodyAt H b f) : BodyAt H' b f := by
  obtain ⟨ys, h1, h2⟩ := h
  exact ⟨ys, s _ _ h1, L2.Paired.mapP h2 fun _ _ z => z.keep (Keep.same s)⟩
def spNumbered : Sp := fun vs H Q _ => ∃ v pr, vs = [v] ∧ PrAt H v pr ∧ PrOk pr ∧ ∀ H' p bs, Same H H' → H p = none → H' p = some (.lst (bs.map V.ref)) → Paired (BodyAt H') bs pr → (∀ b ∈ bs, H b = none) → Q (.ref p) H'
/-- a worth as the program has it -/
def PVd : Wt → Str × V
  | .num z => ("number", .int z)
  | .way f => ("way", .int (f : Int))
def PV (H : Hp) (v : V) (a : Wt) : Prop := ∃ t, v = .ref t ∧ H t = some (.tup [.str (PVd a).1, (PVd a).2])
theorem PV.keep {H H' : Hp} (k : Keep H H') {v : V} {a : Wt} (h : PV H v a) : PV H' v a := by
  obtain ⟨t, e, h⟩ := h
  exact ⟨t, e, k _ _ h⟩
def spReckoned : Sp := fun vs H Q _ => ∃ (o : Op) (x y : Int), vs = [.str o.name, .int x, .int y] ∧ (o = .plus ∨ o = .less ∨ o = .times) ∧ 0 ≤ x ∧ x < 1000 ∧
  ∀ H' t z, Same H H' → H t = none → H' t = some (.tup [.str "number", .int z]) → (∀ call g s, fin call o g [.num x, .num y] s = .ok (.num z) s) → Q (.ref t) H'
end Ov

namespace PySem
namespace FltX
open PySem.W PySem.Calls PyProof.Rows PySem.HandSPX
/-! ### the text of __init__ -/
def iA (p1 p2 : Pos) : Arguments := { posonlyargs := [], args := [{ arg := "self", annotation := none, pos := p1 }, { arg := "word", annotation := none, pos := p2 }], vararg := none, kwonlyargs := [], kw_defaults := [], kwarg := none, defaults := [] }
def iB (q1 q2 q3 q4 : Pos) : List Stmt := [.Assign [.Attribute (.Name "self" q1) "word" q2] (.Name "word" q3) q4]
def iS : Scope := { kind := .function, names := [(PySem.Str.ofString "self", .local), (PySem.Str.ofString "word", .local)], isGenerator := false, isCoroutine := false, more := [] }
/-- what the written part says of Flt, at C, and of its __init__, at fI -/
structure FltTxt (K : Frag) (mg : Str → Option Value) (C fI : Addr) : Prop where
  gC : mg "Fault" = some (.ref C)
  cls : ∃ nm q N bs bm sn sub ab col dd k0 k1 k2 k3 k5, K.lookup C = some (excClassObj nm q C N bs bm true sn sub ab col dd k0 k1 k2 k3 k5 "Exception.__new__") ∧ bm = ESX.exTail
  sa : findIn K (.ref C) "__setattr__" = some (some (.builtin "object.__setattr__"))
  ga : findIn K (.ref C) "__getattribute__" = some (some (.builtin "BaseException.__getattribute__"))
  gg : findIn K (.ref C) "__getattr__" = some none
  noN : findIn K (.ref C) "word" = some none
  iC : findIn K (.ref C) "__init__" = some (some (.ref fI))
  tC : typeIn K (.ref fI) = some (.type "function")
  kC : keepIn K (.ref C) = true
  exC : subIn K (.ref C) (.type "BaseException") = some true
  tyC : typeIn K (.ref C) = some (.type "type")
  hdC : hasDictIn K C = true
  te : exmOne K (.ref C) (.ref C) = some true
  fn : ∃ (oc : Value) (od : Option Addr) (doc pm : Value) (an : Option Addr) (cdv ct : Value) (osl : Array (Option Value)) (p1 p2 q1 q2 q3 q4 : Pos),
    K.lookup fI = some ⟨oc, od, .func (fnOf "__init__" "Fault.__init__" (iA p1 p2) (iB q1 q2 q3 q4) iS .none .none doc pm an cdv ct), osl⟩ ∧ codeIn K cdv "Fault.__init__" = true
theorem one_size (v : Value) : [v].length ≤ sizeLine := by
  rw [sizeLine_eq]
  exact (by decide : 1 ≤ 16777216)
theorem kept_but {K : Frag} {h h' : Heap} {x : Addr} (X : K.In h) (hx : K.lookup x = none) (k : ∀ b o, b ≠ x → h.get? b = some o → h'.get? b = some o) : K.In h' := fun a o e =>
  k a o (fun z => by rw [z, hx] at e; cases e) (X a o e)
theorem ldC {M : Model} {s : Shared} {name : Str} {scope : Scope} {L a : Addr} {cd : Value} {m : Str → Option Value} {x : Str} {pos : Pos} {v : Value} {Q : Value → Shared → Prop} {A : Around} {E : Value → Shared → Prop} (hn : s.heap.Ns L m) (hv : m x = some v) (h : Q v s)
    (hk : scope.kind = .function := by rfl) (hl : (envOfC name scope L a cd).kindOf x = some .local := by rfl) (hd : (x == ("__debug__" : Str)) = false := by decide) :
    wpAny M A (eval (.Name x pos) (envOfC name scope L a cd)) Q E s := wpAny_Name (wpAny_loadName_local hk hl hn hv h) hd
/-- what __init__ leaves of a fresh exception at x -/
structure InitEnd (h h' : Heap) (x C dx t1 : Addr) (v : Value) : Prop where
  keep : ∀ b o, b ≠ x → h.get? b = some o → h'.get? b = some o
  obj : h'.get? x = some { cls := .ref C, dict := some dx, data := .fields #[.ref t1, .none, .none, .none, .bool false, .none] }
  dbig : h.objs.size ≤ dx
  dne : dx ≠ x
  ns : h'.Ns1 dx (fun y => if y = "word" then some v else none)
/-- a made Flt -/
structure OwnMade (h h' : Heap) (e C d : Addr) (v : Value) : Prop where
  keep : ∀ b o, h.get? b = some o → h'.get? b = some o
  new : h.objs.size ≤ e
  obj : ∃ oe vs, h'.get? e = some oe ∧ oe.cls = .ref C ∧ oe.dict = some d ∧ oe.data = .fields vs ∧ vs[1]? = some .none
  dbig : h.objs.size ≤ d
  dne : d ≠ e
  ns : h'.Ns1 d (fun y => if y = "word" then some v else none)
section
variable {prog : Program} {w : World} {A : Around} {E : Value → Shared → Prop} {R : Result → Shared → Prop} {s : Shared} {K : Frag} {mg : Str → Option Value} {C fI : Addr}
theorem low_init (T : FltTxt K mg C fI) {x t0 : Addr} {v : Value} (X : K.In s.heap) (hlim : s.heap.NoLimit) (hx : s.heap.get? x = some (excO C t0)) (hnx : K.lookup x = none) (hroom : A.depth < recursionLimit)
    (hq : ∀ h' tk dx, InitEnd s.heap h' x C dx t0 v → R (.ok (.ret .none)) { s with heap := h', toks := tk }) :
    codeAny (model prog w) A (.call (.ref fI) ⟨[.ref x, v], []⟩) R s := by
  obtain ⟨oc, od, doc, pm, an, cdv, ct, osl, p1, p2, q1, q2, q3, q4, ho, hcd⟩ := T.fn
  obtain ⟨nm, q, N, bs, bm, sn, sub, ab, col, dd, k0, k1, k2, k3, k5, hC, hbm⟩ := T.cls
  have hcl : clsIn K C = some { name := nm, bases := bs, mro := .ref C :: bm, ns := N, qualname := q, hasDict := true, slotNames := sn, subclasses := sub, abstract := ab, collection := col, hasDel := false } := by unfold clsIn; rw [hC] <;> rfl
  refine Att.call_fn (binds := [("self", .ref x), ("word", v)]) X hlim ho hcd hroom (BindsTo.of_eq (by first | rfl | with_unfolding_all rfl)) (by first | rfl | decide | with_unfolding_all rfl) (fun s₁ IC => ?_) rfl rfl rfl
  obtain ⟨h₁, tk₁, rfl⟩ := IC.toInCall.same
  have k : ∀ b o, s.heap.get? b = some o → h₁.get? b = some o := IC.toInCall.keep
  have hn := IC.toInCall.ns
  have hxL : s.heap.objs.size ≠ x := Nat.ne_of_gt (Heap.lt_size hx)
  have X₁ : K.In h₁ := X.keeps k
  have hx₁ := k _ _ hx
  -- self.by = by
  show wpAny _ _ (execs _ _) _ _ _
  refine wpAny_execs_cons (plainObj_wpAny_Assign_Attribute ?_)
  refine ldC (v := v) hn (by first | rfl | with_unfolding_all rfl | kernel_rfl) (ldC (v := .ref x) hn (by first | rfl | with_unfolding_all rfl | kernel_rfl) ?_)
  refine set_plain X₁ (ox := excO C t0) (od := none) ⟨hx₁, rfl, rfl, trivial⟩ T.sa ?_
  refine ESX.osa_new X₁ hx₁ hcl (by rw [← hbm]) rfl T.noN (fun h₃ tk₃ dx k₃ dn dne hx₃ hn₃ => ?_)
  show wpAny _ _ (execs _ _) _ _ _
  have z : s.heap.objs.size < h₁.objs.size := hn.lt
  exact wpAny_execs_nil (hq h₃ tk₃ dx ⟨fun b o hb e => k₃ b o hb (k b o e), hx₃, Nat.le_of_lt (Nat.lt_of_lt_of_le z dn), dne, hn₃⟩)
theorem low_made (T : FltTxt K mg C fI) {v : Value} (X : K.In s.heap) (hlim : s.heap.NoLimit) (hroom : A.depth + 1 < recursionLimit)
    (hq : ∀ h' tk e d, OwnMade s.heap h' e C d v → R (.ok (.ret (.ref e))) { s with heap := h', toks := tk }) :
    codeAny (model prog w) A (.call (.ref C) ⟨[v], []⟩) R s := by
  obtain ⟨nm, q, N, bs, bm, sn, sub, ab, col, dd, k0, k1, k2, k3, k5, hC, hbm⟩ := T.cls
  obtain ⟨hp, g, dr, tk, os⟩ := s
  have k : ∀ b o, hp.get? b = some o → ((hp.push (kdv_tup [v])).push (excO C hp.objs.size)).get? b = some o := fun b o e => Heap.get?_push_of_some _ (Heap.get?_push_of_some _ e)
  have hget : ((hp.push (kdv_tup [v])).push (excO C hp.objs.size)).get? (hp.objs.size + 1) = some (excO C hp.objs.size) := by heap_get
  have hnx : K.lookup (hp.objs.size + 1) = none := by
    cases e : K.lookup (hp.objs.size + 1) with
    | none => rfl
    | some o =>
      have z : hp.get? (hp.objs.size + 1) = some o := X _ _ e
      exact absurd (Nat.lt_of_succ_lt (Heap.lt_size z)) (Nat.lt_irrefl _)
  refine call_own F.excBase_Exception (fun X => by rw [hbm]) (X _ _ hC) (looks_findIn X T.iC) (fun self => bind_fn X self T.tC) (one_size v) ?_
  refine low_init (s := ⟨(hp.push (kdv_tup [v])).push (excO C hp.objs.size), g, dr, tk, os⟩) T (X.keeps k) (hlim.keeps k) hget hnx ?_ fun h' tk' dx ⟨k', hx, dn, dne, hns⟩ => ?_
  · show A.depth + 1 < recursionLimit
    exact hroom
  · have old : ∀ b o, hp.get? b = some o → h'.get? b = some o := fun b o e => k' b o (Nat.ne_of_lt (Nat.lt_succ_of_lt (Heap.lt_size e))) (k b o e)
    have z : hp.objs.size + 1 + 1 ≤ dx := by
      first
        | (simpa only [Heap.size_push] using dn)
        | exact dn
        | (have q := dn; rw [Heap.size_push, Heap.size_push] at q; exact q)
    exact ⟨rfl, hq h' tk' (hp.objs.size + 1) dx ⟨old, Nat.le_succ _, ⟨_, _, hx, rfl, rfl, rfl, rfl⟩, Nat.le_trans (Nat.le_trans (Nat.le_succ _) (Nat.le_succ _)) z, dne, hns⟩⟩
end
end FltX
end PySem
namespace L2
open PySem PySem.Spec PyProof.Rows
theorem relO_low {v : V} {v' : Value} (r : RelV v v') (f : Str) : RelO (List.lookup f [(("word" : Str), v)]) (if f = "word" then some v' else none) := by
  by_cases hw : f = "word"
  · subst hw
    rw [if_pos rfl]
    have q : List.lookup ("word" : Str) [(("word" : Str), v)] = some v := by simp [List.lookup]
    rw [q]
    exact r
  · rw [if_neg hw]
    have qw : (f == ("word" : Str)) = false := by simpa using hw
    have q2 : List.lookup f [(("word" : Str), v)] = none := by simp [List.lookup, qw]
    rw [q2]
    trivial
section
variable {X : Cx} {C fI : Addr}
/-- Flt(e) -/
def tMkFlt (C : Addr) (ta : TA) : St → Hp → XK → Prop := fun σ H Q => ta σ H fun vs H1 => ∃ v, vs = [v] ∧ ∀ d, H1 d = none → Q (.ref C) (some d) (upd H1 d (.xd [(("word" : Str), v)]))
theorem pmk_low {a : Expr} {ta : TA} {p pos : Pos} {k : Nat} (T : PySem.FltX.FltTxt X.K X.mg C fI) (hr : Room k X.A) (ha : PA X [a] ta) (hg : Gl X "Fault" := by rfl)
    (he : starEach (a :: []) X.env = (false, eval a X.env) :: starEach [] X.env := by rfl) (hpl : (backTo pos (starEach [] X.env)).any (·.1) = false := by rfl) :
    PMk X (.Call (.Name "Fault" p) [a] [] pos) (tMkFlt C ta) := by
  intro pins s σ H Q I h
  refine wpAny_Call_Name_kw (ld_glob I hg T.gC ?_)
  refine PySem.W.callWith_K (h₀ := X.base) I.ok.mod.kin T.kC (thn (ha.run pos pins s σ H _ I h) fun us s1 hh => ?_) he hpl
  obtain ⟨vs, H1, I1, r1, v, ev, q1⟩ := hh
  subst ev
  refine ⟨I1.kIn, ?_⟩
  cases r1 with
  | cons rv rn =>
    rename_i v' us'
    cases rn
    show wpAny _ _ (call (.ref C) [v']) _ _ _
    have hlim := I1.nolimit
    obtain ⟨hp, g, dr, tk, os⟩ := s1
    refine wpAny_call (PySem.FltX.low_made T I1.kIn hlim (by have := hr.dp; omega) fun h' tk' e d M => ?_)
    show MkP X pins σ Q (.ref e) ⟨h', g, dr, tk', os⟩
    obtain ⟨oe, fv, hoe, hc, hd, hdat, h1⟩ := M.obj
    have hns := M.ns
    obtain ⟨G', g1, g2⟩ := restrict h' fun b => decide (b ≠ e)
    have gk : ∀ b, b ≠ e → G'.get? b = h'.get? b := fun b hb => g1 b (decide_eq_true hb)
    have ge : G'.get? e = none := g2 e (by simp)
    have old : ∀ b o, hp.get? b = some o → G'.get? b = some o := fun b o q => (gk b (Nat.ne_of_lt (Nat.lt_of_lt_of_le (Heap.lt_size q) M.new))).trans (M.keep b o q)
    have ob : ObjOk X.prog X.w (upd H1 d (.xd [(("word" : Str), v)])) G' d (.xd [(("word" : Str), v)]) :=
      ⟨_, hns.at (fun o q => (gk d M.dne).trans q), fun f => relO_low rv f⟩
    have J : Inv X pins σ (upd H1 d (.xd [(("word" : Str), v)])) ⟨G', g, dr, tk', os⟩ := I1.laid (t' := tk') old M.dbig ob
    refine ⟨e, oe, fv, ⟨G', g, dr, tk', os⟩, _, .ref C, some d, rfl, J, fun b o q => ?_, ge, hoe, ⟨hc, hd⟩, hdat, h1, ?_, rfl, I1.bare, raises_own T.exC T.tyC, q1 d (I1.hok.fresh M.dbig)⟩
    · by_cases hb : b = e
      · have q' : G'.get? b = some o := q
        rw [hb, ge] at q'; cases q'
      · exact (gk b hb).symm.trans q
    · rw [upd_ne (Ne.symm M.dne)]
      exact I1.hok.fresh M.new
/-- raise Flt(e) -/
def tRaiseFlt (C : Addr) (W : WX) (ta : TA) : TS := fun _ σ H => tMkFlt C ta σ H fun cls d H' => W cls d σ H'
theorem ps_raiseFlt {a : Expr} {ta : TA} {W : WX} {p pos pos2 : Pos} {k : Nat} (hc : X.calm = true) (T : PySem.FltX.FltTxt X.K X.mg C fI) (hr : Room k X.A) (tk : Takes X W) (ha : PA X [a] ta) (hg : Gl X "Fault" := by rfl)
    (he : starEach (a :: []) X.env = (false, eval a X.env) :: starEach [] X.env := by rfl) (hpl : (backTo pos (starEach [] X.env)).any (·.1) = false := by rfl) :
    PS X (.Raise (some (.Call (.Name "Fault" p) [a] [] pos)) none pos2) (tRaiseFlt C W ta) := ps_raise hc tk (pmk_low T hr ha hg he hpl)
/-- low.by, low the exception that the suite holds (at a; its class cls, its dict d) -/
def tByFlt (C : Addr) (a : Addr) (cls : Value) (d : Option Addr) (te : TE) : TE := fun σ H Q => te σ H fun x H1 => x = .ref a ∧ cls = .ref C ∧ ∃ (dd : Addr) (v : V), d = some dd ∧ H1 dd = some (.xd [(("word" : Str), v)]) ∧ Q v H1
theorem pe_byFlt {a : Addr} {oe : Obj} {cls : Value} {d : Option Addr} {pn : List (Addr × Obj)} {e : Expr} {te : TE} {pos : Pos} (T : PySem.FltX.FltTxt X.K X.mg C fI) (hz : Zc cls d oe) (hf : ∃ vs, oe.data = .fields vs) (he : PE (X.suite a ((a, oe) :: pn)) e te)
    (hb : attributeBase e "word" X.env (eval e X.env) = eval e X.env := by rfl) :
    PE (X.suite a ((a, oe) :: pn)) (.Attribute e "word" pos) (tByFlt C a cls d te) := by
  refine ⟨fun pins s σ H Q I h => ?_⟩
  refine attr_of hb (thn (he.run pins s σ H _ I h) fun u s1 hh => ?_)
  obtain ⟨x, H1, I1, rx, ex, ec, dd, v, ed, ea, q⟩ := hh
  subst ex
  obtain rfl : u = Value.ref a := rx
  subst ec
  subst ed
  obtain ⟨ha, _⟩ := I1.pin (a, oe) (List.mem_append_left _ List.mem_cons_self)
  obtain ⟨vs, hd⟩ := hf
  have hx : ObjOk X.prog X.w H1 s1.heap dd (.xd [(("word" : Str), v)]) := I1.hok dd _ ea
  obtain ⟨mA, hns, hr⟩ := hx
  obtain ⟨od, ho, hl⟩ := lookIn_ns hns
  have l : List.lookup ("word" : Str) [(("word" : Str), v)] = some v := by simp [List.lookup]
  obtain ⟨u, hu, ru⟩ := RelO.some_of (v := v) (o := mA "word") (by rw [← l]; exact hr "word")
  have J : PySem.W.InstAt s1.heap a oe C (some od) := ⟨ha, hz.1, by unfold PySem.W.notCls; rw [hd] <;> rfl, by rw [hz.2]; exact ho⟩
  exact HandSPX.exc_get I1.kIn J T.ga T.gg T.exC (PySem.W.findObj_own T.hdC T.noN rfl (by rw [hl, hu])) (handed_of ru) ⟨v, H1, I1.tok _, ru, q⟩
end
end L2

namespace L2
open PySem PySem.Spec PyProof.Rows
/-- an if whose test is known -/
theorem if_true_of {c : Bool} {A B : Prop} (hc : c = true) (h : A) : if c = true then A else B := by
  rw [if_pos hc]
  exact h
theorem if_false_of {c : Bool} {A B : Prop} (hc : c = false) (h : B) : if c = true then A else B := by
  rw [hc, if_neg Bool.false_ne_true]
  exact h
end L2
/-! ### the own error Fault: its facts as one test of the written part -/
namespace Ov
open PySem PySem.Spec PyProof.Rows L2
def flt1 (K : PySem.W.Frag) (C : Addr) : Bool := match K.lookup C with
  | some ⟨.type "type", _, .cls cd, sl⟩ => (match cd.mro, sl.toList with
    | .ref C' :: bm, [_, _, _, _, some (.builtin n), _] => C' == C && n == "Exception.__new__" && !cd.hasDel && cd.hasDict && bm == PySem.ESX.exTail
    | _, _ => false)
  | _ => false
theorem flt1_ok {K : PySem.W.Frag} {C : Addr} (q : flt1 K C = true) : ∃ nm q N bs bm sn sub ab col dd k0 k1 k2 k3 k5, K.lookup C = some (excClassObj nm q C N bs bm true sn sub ab col dd k0 k1 k2 k3 k5 "Exception.__new__") ∧ bm = PySem.ESX.exTail := by
  unfold flt1 at q
  split at q
  · rename_i dd cd sl ho
    split at q
    · rename_i C' bm k0 k1 k2 k3 n k5 hm hs
      simp only [Bool.and_eq_true, beq_iff_eq, Bool.not_eq_true'] at q
      obtain ⟨⟨⟨⟨rfl, rfl⟩, hdel⟩, hdi⟩, hb⟩ := q
      obtain ⟨nm, bs, mro, ns, qn, hd, sn, sub, ab, col, del⟩ := cd
      dsimp only at hm hdel hdi
      subst hm hdel hdi
      have hsl : sl = #[k0, k1, k2, k3, some (.builtin "Exception.__new__"), k5] := by
        obtain ⟨l⟩ := sl
        simp only at hs
        rw [hs]
      subst hsl
      exact ⟨nm, qn, ns, bs, bm, sn, sub, ab, col, dd, k0, k1, k2, k3, k5, ho, hb⟩
    · cases q
  · cases q
/-- a def without defaults -/
def fnNone (K : PySem.W.Frag) (a : Addr) : Bool := match K.lookup a with
  | some ⟨_, _, .func fd, _⟩ => decide (fd.defaults = .none) && decide (fd.kwdefaults = .none)
  | _ => false
theorem fnNone_ok {K : PySem.W.Frag} {a : Addr} {oc : Value} {od : Option Addr} {fd : FuncData} {osl : Array (Option Value)} (lk : K.lookup a = some ⟨oc, od, .func fd, osl⟩) (q : fnNone K a = true) : fd.defaults = .none ∧ fd.kwdefaults = .none := by
  unfold fnNone at q
  rw [lk] at q
  simpa only [Bool.and_eq_true, decide_eq_true_eq] using q
def fltB (K : PySem.W.Frag) (C fI : Addr) : Bool := flt1 K C && He.eqO (PySem.W.findIn K (.ref C) "__setattr__") (some (some (.builtin "object.__setattr__"))) && He.eqO (PySem.W.findIn K (.ref C) "__getattribute__") (some (some (.builtin "BaseException.__getattribute__"))) &&
  He.eqO (PySem.W.findIn K (.ref C) "__getattr__") (some none) && He.eqO (PySem.W.findIn K (.ref C) "word") (some none) && He.eqO (PySem.W.findIn K (.ref C) "__init__") (some (some (.ref fI))) && decide (PySem.W.typeIn K (.ref fI) = some (.type "function")) &&
  PySem.W.keepIn K (.ref C) && decide (PySem.W.subIn K (.ref C) (.type "BaseException") = some true) && decide (PySem.W.typeIn K (.ref C) = some (.type "type")) && PySem.W.hasDictIn K C && decide (PySem.W.exmOne K (.ref C) (.ref C) = some true) && fnNone K fI
theorem flt_ok {K : PySem.W.Frag} {mg : Str → Option Value} {C fI : Addr} (g : mg "Fault" = some (.ref C)) (q : fltB K C fI = true)
    (fn : ∃ (oc : Value) (od : Option Addr) (doc pm : Value) (an : Option Addr) (cdv ct : Value) (osl : Array (Option Value)) (p1 p2 q1 q2 q3 q4 : Pos),
    K.lookup fI = some ⟨oc, od, .func (PySem.W.fnOf "__init__" "Fault.__init__" (PySem.FltX.iA p1 p2) (PySem.FltX.iB q1 q2 q3 q4) PySem.FltX.iS .none .none doc pm an cdv ct), osl⟩ ∧ PySem.W.codeIn K cdv "Fault.__init__" = true) : PySem.FltX.FltTxt K mg C fI := by
  unfold fltB at q
  simp only [Bool.and_eq_true, decide_eq_true_eq] at q
  obtain ⟨⟨⟨⟨⟨⟨⟨⟨⟨⟨⟨⟨a1, a2⟩, a3⟩, a4⟩, a5⟩, a6⟩, a7⟩, a8⟩, a9⟩, a10⟩, a11⟩, a12⟩, _⟩ := q
  exact { gC := g, cls := flt1_ok a1, sa := He.eqO_ok a2, ga := He.eqO_ok a3, gg := He.eqO_ok a4, noN := He.eqO_ok a5, iC := He.eqO_ok a6, tC := a7, kC := a8, exC := a9, tyC := a10, hdC := a11, te := a12, fn := fn }
theorem fltB_none {K : PySem.W.Frag} {C fI : Addr} (q : fltB K C fI = true) : fnNone K fI = true := by
  unfold fltB at q
  simp only [Bool.and_eq_true] at q
  exact q.2
/-- a fault's way out of a def -/
def Out (K : PySem.W.Frag) (H : Hp) (E : XK) (x : Str) : Prop := ∀ H' d, Same H H' → H d = none → H' d = some (.xd [("word", .str x)]) → E (.ref (He.ga K "Fault")) (some d) H'
def spNumIn (K : PySem.W.Frag) : Sp := fun vs H Q E => ∃ v a, vs = [v] ∧ PV H v a ∧ match a with
  | .num z => Q (.int z) H
  | .way _ => Out K H E "kind"
def spEndIn (K : PySem.W.Frag) : Sp := fun vs H Q E => ∃ v a, vs = [v] ∧ PV H v a ∧ match a with
  | .way f => Q (.int (f : Int)) H
  | .num _ => Out K H E "kind"
/-! ### the program's object of a run -/
structure PA where
  a : Addr
  dx : Addr
  bo : Addr
  sa : Addr
  ro : Addr
def runFs (x : PA) (told : V) (calls others : Int) : List (Str × V) := [("bodies", .ref x.bo), ("told", told), ("said", .ref x.sa), ("row", .ref x.ro), ("calls", .int calls), ("others", .int others)]
/-- the object, what was said, where the run went; the bodies' rows stand at bo -/
structure RunAt (K : PySem.W.Frag) (H : Hp) (x : PA) (pr : List (Int × W)) (told : V) (s : RS) (others : Int) : Prop where
  ob : H x.a = some (.ins (He.ga K "Run") x.dx (runFs x told (s.calls : Int) others))
  bo : ∃ bs : List Addr, H x.bo = some (.lst (bs.map V.ref)) ∧ Paired (BodyAt H) bs pr ∧ ∀ b ∈ bs, b ≠ x.sa ∧ b ≠ x.ro
  sa : H x.sa = some (.lst (s.said.map V.int))
  ro : H x.ro = some (.lst (nV s.row))
  nd : x.bo ≠ x.sa ∧ x.bo ≠ x.ro ∧ x.sa ≠ x.ro
def spRunInit (K : PySem.W.Frag) : Sp := fun vs H Q _ => ∃ (a dx : Addr) (v : V) (pr : List (Int × W)), vs = [.ref a, v] ∧ H a = some (.ins (He.ga K "Run") dx []) ∧ PrAt H v pr ∧ PrOk pr ∧
  ∀ H' x, (∀ b o, b ≠ a → H b = some o → H' b = some o) → x.a = a → x.dx = dx → H x.sa = none → H x.ro = none → RunAt K H' x pr .non ⟨[], 0, [], [], []⟩ 0 → Q .non H'
theorem putF_new {f : Str} {v : V} : ∀ {fs : List (Str × V)}, (fs.map (·.1)).contains f = false → putF f v fs = fs ++ [(f, v)]
  | [], _ => rfl
  | (g, x) :: r, h => by
    rw [List.map_cons, List.contains_cons, Bool.or_eq_false_iff] at h
    show (if g = f then (g, v) :: r else (g, x) :: putF f v r) = _
    have n : ¬ g = f := fun z => by
      have e := h.1
      rw [← z] at e
      exact absurd e (by simp)
    rw [if_neg n, putF_new h.2]
    rfl
theorem runFs_new {x : PA} : putF "others" (.int 0) (putF "calls" (.int 0) (putF "row" (.ref x.ro) (putF "said" (.ref x.sa) (putF "told" .non (putF "bodies" (.ref x.bo) []))))) = runFs x .non 0 0 := by
  rw [putF_new (f := "bodies") (fs := []) rfl]
  rw [putF_new (f := "told") (by show (["bodies"] : List Str).contains "told" = false; decide +kernel)]
  rw [putF_new (f := "said") (by show (["bodies", "told"] : List Str).contains "said" = false; decide +kernel)]
  rw [putF_new (f := "row") (by show (["bodies", "told", "said"] : List Str).contains "row" = false; decide +kernel)]
  rw [putF_new (f := "calls") (by show (["bodies", "told", "said", "row"] : List Str).contains "calls" = false; decide +kernel)]
  rw [putF_new (f := "others") (by show (["bodies", "told", "said", "row", "calls"] : List Str).contains "others" = false; decide +kernel)]
  rfl
/-- all but the run's object and its lists stays -/
def ButP (x : PA) (H H' : Hp) : Prop := ∀ b o, b ≠ x.a → b ≠ x.sa → b ≠ x.ro → H b = some o → H' b = some o
def spSay (K : PySem.W.Frag) : Sp := fun vs H Q E => ∃ (x : PA) (pr : List (Int × W)) (told v : V) (s : RS) (oth : Int) (a : Wt), vs = [.ref x.a, v] ∧ RunAt K H x pr told s oth ∧ PV H v a ∧ s.said.length ≤ most ∧ match a with
  | .num z => ∀ H', ButP x H H' → RunAt K H' x pr told { s with said := s.said ++ [z] } oth → Q v H'
  | .way _ => Out K H E "kind"
theorem BodyAt.updL {H : Hp} {p b : Addr} {f : Int × W} {xs ys : List V} (e : H p = some (.lst xs)) (n : b ≠ p) (h : BodyAt H b f) : BodyAt (upd H p (.lst ys)) b f := by
  obtain ⟨zs, h1, h2⟩ := h
  exact ⟨zs, by rw [upd_ne n]; exact h1, L2.Paired.mapP h2 fun _ _ z => z.keep (Keep.updL e)⟩
theorem RunAt.updS {K : PySem.W.Frag} {H : Hp} {x : PA} {pr : List (Int × W)} {told : V} {s : RS} {oth z : Int} (h : RunAt K H x pr told s oth) : RunAt K (upd H x.sa (.lst (s.said.map V.int ++ [.int z]))) x pr told { s with said := s.said ++ [z] } oth := by
  obtain ⟨h1, ⟨bs, h2, h3, h4⟩, h5, h6, n1, n2, n3⟩ := h
  exact ⟨by rw [upd_ne (ne_of h1 h5 (by intro z; cases z))]; exact h1, ⟨bs, by rw [upd_ne n1]; exact h2, PairedMem.map h3 fun b f hb z => z.updL h5 (h4 b hb).1, h4⟩, by rw [upd_same, List.map_append]; rfl, by rw [upd_ne n3.symm]; exact h6, n1, n2, n3⟩
theorem RunAt.updR {K : PySem.W.Frag} {H : Hp} {x : PA} {pr : List (Int × W)} {told : V} {s : RS} {oth : Int} {f : Nat} (h : RunAt K H x pr told s oth) : RunAt K (upd H x.ro (.lst (nV s.row ++ [.int (f : Int)]))) x pr told { s with row := s.row ++ [f] } oth := by
  obtain ⟨h1, ⟨bs, h2, h3, h4⟩, h5, h6, n1, n2, n3⟩ := h
  exact ⟨by rw [upd_ne (ne_of h1 h6 (by intro z; cases z))]; exact h1, ⟨bs, by rw [upd_ne n2]; exact h2, PairedMem.map h3 fun b f hb z => z.updL h6 (h4 b hb).2, h4⟩, by rw [upd_ne n3]; exact h5, by rw [upd_same, nV_app], n1, n2, n3⟩
end Ov

/-! ### methods that say super(): their defs, and the call -/
namespace Ov
open PySem PySem.Spec PyProof.Rows L2
/-- the words of a def that captures its class -/
abbrev supN (name qual : Str) (params : Arguments) (body : List Stmt) (scope : Scope) (cc cda : Addr) : NdefX.NF := ⟨name, qual, params, body, scope, [("__class__", cc)], cda⟩
/-- the def at f captures the class at D by the cell cc; its code object is at cda, of the main file -/
structure SupD (P : Program) (K : PySem.W.Frag) (name qual : Str) (params : Arguments) (body : List Stmt) (scope : Scope) (f cc cda D : Addr) (fd : FuncData) : Prop where
  ex : ∃ oc od doc pm an ct osl, fd = PySem.W.fnX name qual params body scope [("__class__", cc)] .none .none doc pm an (.ref cda) ct ∧ K.lookup f = some ⟨oc, od, .func fd, osl⟩
  code : PySem.W.codeIn K (.ref cda) qual = true
  file : ∃ ccl cdd vs ccs file tf, K.lookup cda = some ⟨ccl, cdd, .fields vs, ccs⟩ ∧ vs[2]? = some (.str file tf) ∧ ((P.main.file : Str) == file) = true
  cell : ∃ cl cld csl, K.lookup cc = some ⟨cl, cld, .cell (some (.ref D)), csl⟩
  top : (P.main.scope.names.lookup ("super" : Str)).isSome = false
/-- a suite that is run as (a part of) the body bd of X's def: the code that runs is known -/
structure QS (X : Cx) (bd : List Stmt) (st : Stmt) (t : TS) : Prop where
  run : ∀ (pins : List (Addr × Obj)) (s : Shared) (σ : L2.St) (H : Hp) (D : Ends), Inv X pins σ H s → t D σ H → PySem.wpAt (model X.prog X.w) X.A (.func bd X.env) (exec st X.env) (SP X pins D) X.xe s
structure QSs (X : Cx) (bd : List Stmt) (sts : List Stmt) (t : TS) : Prop where
  run : ∀ (pins : List (Addr × Obj)) (s : Shared) (σ : L2.St) (H : Hp) (D : Ends), Inv X pins σ H s → t D σ H → PySem.wpAt (model X.prog X.w) X.A (.func bd X.env) (execs sts X.env) (SP X pins D) X.xe s
structure QE (X : Cx) (bd : List Stmt) (e : Expr) (t : TE) : Prop where
  run : ∀ (pins : List (Addr × Obj)) (s : Shared) (σ : L2.St) (H : Hp) (Q : VK), Inv X pins σ H s → t σ H Q → PySem.wpAt (model X.prog X.w) X.A (.func bd X.env) (eval e X.env) (EP X pins σ Q) X.xe s
section
variable {X : Cx} {bd : List Stmt} {st : Stmt} {sts : List Stmt} {e : Expr} {t u : TS} {te : TE} {pos : Pos}
theorem QS.of (h : PS X st t) : QS X bd st t := ⟨fun pins s σ H D I q => PySem.wpAt_of_wpAny (h.run pins s σ H D I q)⟩
theorem QSs.of (h : PSs X sts t) : QSs X bd sts t := ⟨fun pins s σ H D I q => PySem.wpAt_of_wpAny (h.run pins s σ H D I q)⟩
theorem QSs.cons (h1 : QS X bd st t) (h2 : QSs X bd sts u) : QSs X bd (st :: sts) (tSeq t u) := by
  refine ⟨fun pins s σ H D I h => ?_⟩
  refine ks_wpAt_execs_cons (PySem.wpAt_mono (h1.run pins s σ H { D with nx := u D } I h) (fun f s1 q => ?_) fun _ _ z => z)
  cases f with
  | next =>
    obtain ⟨σ', H', I', q⟩ := q
    exact h2.run pins s1 σ' H' D I' q
  | ret v => exact q
  | brk => exact q
  | cont => exact q
theorem QSs.one (h1 : QS X bd st t) : QSs X bd [st] t := by
  refine ⟨fun pins s σ H D I h => ?_⟩
  refine ks_wpAt_execs_cons (PySem.wpAt_mono (h1.run pins s σ H D I h) (fun f s1 q => ?_) fun _ _ z => z)
  cases f with
  | next => exact PySem.wpAt_of_wpAny (wpAny_execs_nil q)
  | ret v => exact q
  | brk => exact q
  | cont => exact q
theorem QS.expr (he : QE X bd e te) (hs : swapsWith e none pos.line X.env = pure false := by rfl) : QS X bd (.Expr e pos) (tDrop te) := by
  refine ⟨fun pins s σ H D I h => ?_⟩
  exact ks_wpAt_Expr_any (PySem.wpAt_mono (he.run pins s σ H _ I h) (fun v s1 ⟨x, H1, I1, r1, q1⟩ => ⟨σ, H1, I1, q1⟩) fun _ _ z => z) I.quiet hs
end
/-- the rule: a def that captures its class, by its body -/
theorem fn_ofS {CX : CXT} {P : Program} {w : World} {K : PySem.W.Frag} {mg : Str → Option Value} {base : Heap} {k : Nat} {f cc cda D : Addr} {name qual : Str} {params : Arguments} {body : List Stmt} {scope : Scope} {fd : FuncData} {N ps : List Str} {sp : Sp}
    (S : SupD P K name qual params body scope f cc cda D fd) (SC : NdefX.NScope N ps ["__class__"] scope) (len : ∀ vs H Q E, sp vs H Q E → vs.length = ps.length)
    (hbody : ∀ (A : Around) (outer : List Env) (s : Shared) (H : Hp) (vs : List V) (Q : VK) (E : XK), Room k (A.deeper (NdefX.envF (supN name qual params body scope cc cda) f s.heap.objs.size)) → sp vs H Q E →
      ∃ t, QSs (NdefX.ncx CX P w K mg base N (supN name qual params body scope cc cda) f A outer s H E) body body t ∧ t { nx := fun _ H' => Q .non H', rt := Q } (NdefX.startF N vs [none]) H) :
    FnOk P w K mg base CX (k + 1) f fd ps sp := by
  refine ⟨len, fun A outer s H args us vs Q E hr e0 hb r hsp => ?_⟩
  have hl := len _ _ _ _ hsp
  have bk : ∀ b o, base.get? b = some o → s.heap.get? b = some o := fun b o e => (e0.bs b o e).1
  have KX : K.In s.heap := e0.mod.kin.keeps bk
  have lim : s.heap.NoLimit := e0.mod.nolimit.keeps bk
  obtain ⟨oc, od, doc, pm, an, ct, osl, rfl, lk⟩ := S.ex
  obtain ⟨cl, cld, csl, lc⟩ := S.cell
  have C : NdefX.CellsAt (supN name qual params body scope cc cda).cl ["__class__"] [none] s.heap H := by
    refine ⟨rfl, fun y c e => ?_, fun x y c ex ey => ?_, fun i y e => ?_⟩
    · have e : List.lookup y [(("__class__" : Str), cc)] = some c := e
      rw [List.lookup_cons] at e
      split at e
      · cases e
        exact ⟨(e0.bs _ _ (e0.mod.kin _ _ lc)).2, _, _, KX _ _ lc, rfl⟩
      · cases e
    · have ex : List.lookup x [(("__class__" : Str), cc)] = some c := ex
      have ey : List.lookup y [(("__class__" : Str), cc)] = some c := ey
      rw [List.lookup_cons] at ex ey
      split at ex
      · rename_i hx
        split at ey
        · rename_i hy
          exact (beq_iff_eq.mp hx).trans (beq_iff_eq.mp hy).symm
        · cases ey
      · cases ex
    · match i, e with
      | 0, e =>
        cases e
        exact ⟨cc, rfl, fun v z => by cases z⟩
      | i + 1, e => exact absurd e (by simp)
  refine codeAny_call_function hr.depth (KX _ _ lk) rfl SC.co SC.gen rfl (PySem.W.codeRec_of KX S.code) (hb _ _ _ _ ?_)
  refine wpAny_newFunctionEnv SC.nocell (fun ⟨n, _⟩ hy => SC.par n (List.of_mem_zip hy).1) (fun h₁ hns hsb => ⟨lim.fresh _ hsb, ?_⟩) SC.kind
  show codeAny _ _ (.func body (NdefX.envF (supN name qual params body scope cc cda) f s.heap.objs.size)) _ _
  refine ks_codeAny_funcAt ?_
  have kp : ∀ b o, s.heap.get? b = some o → h₁.get? b = some o := fun b o e => hsb.extBut b o (Nat.ne_of_lt (Heap.lt_size e)) (Heap.get?_push_of_some _ e)
  obtain ⟨t, ht, hq⟩ := hbody A outer s H vs Q E (hr.deeper _) hsp
  have I : Inv (NdefX.ncx CX P w K mg base N (supN name qual params body scope cc cda) f A outer s H E) [] (NdefX.startF N vs [none]) H { s with heap := h₁, toks := s.toks + (ps.zip us).length } := NdefX.inv_startN SC hr.hd e0 hl r C hns kp
  refine PySem.wpAt_mono (ht.run [] _ (NdefX.startF N vs [none]) H _ I hq) (fun fl s' hs => ?_) fun e s' hs => hs
  have fin : ∀ {σ' : L2.St} {H' : Hp} {v : V} {u : Value}, Inv (NdefX.ncx CX P w K mg base N (supN name qual params body scope cc cda) f A outer s H E) [] σ' H' s' → L2.RelV v u → Q v H' → CE outer P w H s Q u s' :=
    fun {σ' H' v u} J rv q => ⟨v, H', J.os, J.bare, J.base, J.hok, rv, q⟩
  cases fl with
  | ret u =>
    obtain ⟨v, σ', H', J, rv, q⟩ := hs
    exact fin J rv q
  | next =>
    obtain ⟨σ', H', J, q⟩ := hs
    exact fin (v := V.non) (u := Value.none) J rfl q
  | brk =>
    obtain ⟨_, _, _, q⟩ := hs
    exact False.elim q
  | cont =>
    obtain ⟨_, _, _, q⟩ := hs
    exact False.elim q
/-- what super() finds: the method m behind the class D, for an instance of C -/
structure SupM (K : PySem.W.Frag) (C D : Addr) (m : Str) (g : Addr) : Prop where
  cls : ∃ cd, PySem.W.clsIn K C = some cd
  clsD : ∃ cd, PySem.W.clsIn K D = some cd
  sub : PySem.W.mroIn K C (.ref D) = some true
  any : PySem.W.nsIn K cStatics "thirdparty.any" = some none
  at_ : PySem.W.ks_superIn K C D m = some (some (.ref g))
  ty : PySem.W.typeIn K (.ref g) = some (.type "function")
  fi : PySem.W.fnIn K g = true
/-- super().m(..) in a method of the class at D; the slot i holds self, an instance of the class at C -/
def tSup (i : Nat) (C : Addr) (sp : Sp) (E : XK) (t : TA) : TE := fun σ H Q => ∃ a dx fs, σ[i]? = some (some (.ref a)) ∧ H a = some (.ins C dx fs) ∧ t σ H fun vs H2 => sp (.ref a :: vs) H2 Q E
section
variable {X : Cx} {CX : CXT} {k : Nat} {C D g f cc cda : Addr} {name qual m x : Str} {params : Arguments} {body : List Stmt} {scope : Scope} {fd : FuncData} {sp : Sp} {E : XK} {e : Expr} {es : List Expr} {p0 p1 pos apos : Pos} {t : TA} {i : Nat} {ar : Arg}
theorem cls_at {K : PySem.W.Frag} {h : Heap} {A : Addr} {cd : ClassData} (X : K.In h) (hc : PySem.W.clsIn K A = some cd) : ∃ o, h.get? A = some o ∧ o.data = .cls cd := by
  unfold PySem.W.clsIn at hc
  split at hc
  · rename_i c d cd' sl ho
    cases hc
    exact ⟨_, X _ _ ho, rfl⟩
  · cases hc
theorem qe_super {pl : Sem Bool} (S : SupD X.prog X.K name qual params body scope f cc cda D fd) (M : SupM X.K C D m g) (hsc : X.env.scope = scope) (hfn : X.env.func = some f) (hco : X.env.code = .ref cda) (hcl : X.env.cells.lookup ("__class__" : Str) = some cc) (har : (params.posonlyargs ++ params.args).head? = some ar) (hi : X.N[i]? = some ar.arg)
    (ha0 : scope.names.lookup ar.arg = some .local) (hks : scope.names.lookup ("super" : Str) = some .globalImplicit) (hkc : scope.names.lookup ("__class__" : Str) = some .free) (hsup : X.mg "super" = none)
    (hmc : (m == ("__class__" : Str)) = false) (F : FnR X.prog X.w X.K X.mg X.base CX k g sp) (hr : Room k X.A) (hx : Passes CX X E) (ha : L2.PA X (e :: es) t)
    (hst : starEach (e :: es) X.env = (false, eval e X.env) :: starEach es X.env := by rfl) (hpl : (backTo pos (starEach es X.env)).any (·.1) = false := by rfl)
    (ht : eval (.Call (.Attribute (.Call (.Name "super" p0) [] [] p1) m apos) (e :: es) [] pos) X.env = (do
      let ov ← attributeBase (.Call (.Name "super" p0) [] [] p1) m X.env (eval (.Call (.Name "super" p0) [] [] p1) X.env)
      standAt apos.atName
      let (f, first) ← holding [ov] (getMethod ov m pl)
      callWith pos f first (backTo pos (starEach (e :: es) X.env)) []) := by rfl) :
    QE X body (.Call (.Attribute (.Call (.Name "super" p0) [] [] p1) m apos) (e :: es) [] pos) (tSup i C sp E t) := by
  refine ⟨fun pins s σ H Q I h => ?_⟩
  obtain ⟨a, dx, fs, ea, hins, h⟩ := h
  obtain ⟨oc, od, doc, pm, an, ct, osl, rfl, lk⟩ := S.ex
  obtain ⟨ccl, cdd, vs, ccs, file, tf, lcode, hvs, hfile⟩ := S.file
  obtain ⟨cl, cld, csl, lc⟩ := S.cell
  obtain ⟨cdC, hC⟩ := M.cls
  obtain ⟨cdD, hD⟩ := M.clsD
  obtain ⟨mA, O, rr, _, _, _⟩ := ins_get I.hok hins
  obtain ⟨oD, J, hlook⟩ := O.look
  obtain ⟨ob, hb1, hb2⟩ := cls_at I.kIn hD
  have kk : ∀ y, X.env.kindOf y = scope.names.lookup y := fun y => by
    show X.env.scope.names.lookup y = _
    rw [hsc]
  have hkind : X.env.scope.kind = .function := I.ok.kind
  refine ks_wpAt_MethodCall (pl := pl) ?_ ht
  refine ks_wpAt_super_base (by rw [kk]; exact hks) (by rw [kk]; exact hkc) hmc hfn (I.kIn _ _ lk) rfl har hco (I.kIn _ _ lcode) rfl hvs hfile S.top ?_
  obtain ⟨mb, g1, g2⟩ := I.mod.blt
  refine PySem.W.ks_loadName_global hkind (by rw [kk]; exact hks) (Calls.loadGlobal_builtin (by rw [I.ok.glob]; exact I.mod.glob.keeps I.bk) hsup (by rw [I.ok.blt]; exact g1.keeps I.bk) ((g2 _ (by decide)).trans (show bootBuiltins "super" = some (.type "super") from by decide +kernel)) ⟨rfl, ?_⟩)
  refine wpAny_loadName_free hkind (by rw [kk]; exact hkc) hcl ⟨_, I.kIn _ _ lc, rfl⟩ ?_
  obtain ⟨m0, hn, hl⟩ := I.loc
  obtain ⟨u, ru, lu⟩ := hl i ar.arg (.ref a) hi ea (by rw [hsc]; exact .inl ha0)
  obtain rfl : u = Value.ref a := ru
  have hself : m0 ar.arg = some (.ref a) := by
    rcases lu with ⟨_, z⟩ | ⟨z, _⟩
    · exact z
    · have z : X.env.kindOf ar.arg = some .cell ∨ X.env.kindOf ar.arg = some .free := z
      rw [kk, ha0] at z
      rcases z with z | z <;> cases z
  refine wpAny_loadName_local hkind (by rw [kk]; exact ha0) hn hself ?_
  refine ks_wpAny_isType_cls hb1 hb2 ⟨rfl, ?_⟩
  refine ks_wpAny_call_super hb1 hb2 J.at_ J.cls (fun c z => ?_) (PySem.W.looks_mroIn I.kIn M.sub) (fun h1 e1 k1 => ?_)
  · have := J.no
    unfold PySem.W.notCls at this
    rw [z] at this
    exact Bool.noConfusion this
  have I1 : Inv X pins σ H { s with heap := h1, toks := s.toks } := I.kept (t' := s.toks) k1
  obtain ⟨ofn, hof, hofc⟩ : ∃ of, h1.get? g = some of ∧ of.cls = .type "function" := by
    have ht' : (X.K.lookup g).map (·.cls) = some (.type "function") := M.ty
    cases z : X.K.lookup g with
    | none => rw [z] at ht'; cases ht'
    | some of => rw [z] at ht'; exact ⟨of, I1.kIn _ _ z, Option.some.inj ht'⟩
  have hm := M.at_
  unfold PySem.W.ks_superIn at hm
  rw [hC] at hm
  refine ks_wpAny_getMethod_super (K := X.K) (of := ofn) (l₀ := cdC.mro) e1 (PySem.W.looks_opaque I1.kIn M.any) (fun A Q E s k q => wpAny_bind ((PySem.W.looks_clsIn I1.kIn hC) A _ E s k (wpAny_pure q))) rfl I1.kIn hm hof hofc (PySem.W.ks_ne I.kIn J hC) hmc ?_
  have I2 : Inv X ((h1.objs.size, PySem.W.methodObj (.ref g) (.ref a)) :: pins) σ H { s with heap := h1.push (PySem.W.methodObj (.ref g) (.ref a)), toks := s.toks + 1 } := ClX.met_new I1
  refine ClX.callwith_cm I2 (ClX.base_none I1 (Nat.le_refl _)) M.fi (thn (ha.run pos _ _ σ H _ I2 h) fun us s3 ⟨vs, H2, I3, rv, q2⟩ => ⟨⟨ClX.pin_at I3, I3.kIn⟩, ?_⟩) hst hpl
  exact ClX.run_cm F hr hx I3 rv q2
end
end Ov

/-! ### C.m(x, ..) of a class by its name; try around a body that says super() -/
namespace Ov
open PySem PySem.Spec PyProof.Rows L2
/-- C.m(x, ..): the def itself, nothing bound -/
def tUnb (C : Addr) (sp : Sp) (E : XK) (ta : TE) (t : TA) : TE := fun σ H Q => ta σ H fun x H1 => x = .ref C ∧ t σ H1 fun vs H2 => sp vs H2 Q E
section
variable {X : Cx} {CX : CXT} {k : Nat} {C g : Addr} {mc : Value} {sp : Sp} {E : XK} {o e : Expr} {es : List Expr} {m : Str} {pos apos : Pos} {ta : TE} {t : TA} {pl : Sem Bool}
theorem pe_unb (he : PE X o ta) (r : ClX.CRead X.K C mc) (c : ClX.CVal X.K C mc m (.ref g) (.ref g)) (hk : PySem.W.keepIn X.K (.ref g) = true) (F : FnR X.prog X.w X.K X.mg X.base CX k g sp) (hr : Room k X.A) (hx : Passes CX X E) (ha : L2.PA X (e :: es) t)
    (hst : starEach (e :: es) X.env = (false, eval e X.env) :: starEach es X.env := by rfl) (hpl : (backTo pos (starEach es X.env)).any (·.1) = false := by rfl)
    (ht : eval (.Call (.Attribute o m apos) (e :: es) [] pos) X.env = (do
      let ov ← eval o X.env
      standAt apos.atName
      let (f, first) ← holding [ov] (getMethod ov m pl)
      callWith pos f first (backTo pos (starEach (e :: es) X.env)) (backToKw pos (keywordEach [] X.env))) := by rfl) :
    PE X (.Call (.Attribute o m apos) (e :: es) [] pos) (tUnb C sp E ta t) := by
  constructor
  intro pins s σ H Q I h
  refine PySem.W.methodCall_KW (pl := pl) (thn (he.run pins s σ H _ I h) fun u s1 y => ?_) ht
  obtain ⟨x, H1, I1, rx, ex, q⟩ := y
  subst ex
  cases rx
  refine PySem.W.method_cls I1.kIn r.ga (ClX.getcval_ok I1 r c fun s2 I2 => ?_)
  refine PySem.W.callWith_K (first := []) (h₀ := X.base) I.ok.mod.kin hk (thn (ha.run pos pins s2 σ H1 _ I2 q) fun us s3 z => ?_) hst hpl
  obtain ⟨vs, H2, I3, rv, q2⟩ := z
  exact ⟨I3.kIn, wpAny_call (run_fnR F hr hx I3 rv q2)⟩
end
section
variable {X : Cx} {bd body orelse : List Stmt} {h₀ : ExceptHandler} {hs : List ExceptHandler} {pos : Pos} {t u : TS}
theorem at_attempt {α : Type} {M : Model} {A : Around} {c : Code} {E : Value → Shared → Prop} {s : Shared} {m : Sem α} {Q : Except Value α → Shared → Prop} (h : PySem.wpAt M A c m (fun a => Q (.ok a)) (fun e => Q (.error e)) s) : PySem.wpAt M A c m.attempt Q E s := by
  intro Γ p hc hΓ
  rw [Sem.wp_attempt]
  exact h Γ p hc hΓ
/-- a body from which no exception comes -/
theorem QS.try_thru (hb : QSs X.nox bd body t) : QS X bd (.Try body (h₀ :: hs) [] [] pos) t := by
  constructor
  intro pins s σ H D I h
  rw [arm_exec_Try]
  refine PySem.wpAt_bind (PySem.wpAt_of_wpAny (wpAny_standAt ?_))
  unfold tryStmt
  simp only [List.isEmpty_nil, if_true, List.isEmpty_cons, Bool.false_and, Bool.false_eq_true, if_false]
  refine PySem.wpAt_bind (at_attempt (PySem.wpAt_mono (hb.run pins s σ H D (I.wish _) h) (fun f s1 q => ?_) fun e s1 z => z.elim))
  have q' : SP X pins D f s1 := q.unwish
  cases f with
  | next => exact PySem.wpAt_of_wpAny (wpAny_execs_nil q')
  | ret v => exact PySem.wpAt_of_wpAny (wpAny_pure q')
  | brk => exact PySem.wpAt_of_wpAny (wpAny_pure q')
  | cont => exact PySem.wpAt_of_wpAny (wpAny_pure q')
end
end Ov

/-! ### the facts of a method that says super(), as tests of the written part; the hook -/
namespace Ov
open PySem PySem.Spec PyProof.Rows L2
abbrev FnC : Type := Option (Str × Str × Arguments × FuncBody × Scope × Addr × List Str × Addr)
def fnC (K : PySem.W.Frag) (p : Str × Option Str) : FnC := match K.lookup (He.fAd K p) with
  | some ⟨_, _, .func fd, _⟩ => some (fd.name, fd.qualname, fd.params, fd.body, fd.scope, fd.globals, fd.closure.map (·.1), fd.builtins)
  | _ => none
def valC (d : He.DefD) : FnC := some (d.name, d.qual, d.params, .stmts d.body, d.scope, mainGlobals, ["__class__"], builtinsNs)
/-- the def's object: its cell and its code object -/
def celOf (K : PySem.W.Frag) (f : Addr) : Addr := match K.lookup f with
  | some ⟨_, _, .func fd, _⟩ => (match fd.closure with
    | (_, c) :: _ => c
    | [] => 0)
  | _ => 0
def codOf (K : PySem.W.Frag) (f : Addr) : Addr := match K.lookup f with
  | some ⟨_, _, .func fd, _⟩ => (match fd.code with
    | .ref c => c
    | _ => 0)
  | _ => 0
def fnAt (K : PySem.W.Frag) (f : Addr) : FuncData := match K.lookup f with
  | some ⟨_, _, .func fd, _⟩ => fd
  | _ => default
def supB (K : PySem.W.Frag) (file : Str) (D f : Addr) (qual : Str) : Bool := (match K.lookup f with
    | some ⟨_, _, .func fd, _⟩ => decide (fd.defaults = .none) && (decide (fd.kwdefaults = .none) && decide (fd.code = .ref (codOf K f)))
    | _ => false) && (PySem.W.codeIn K (.ref (codOf K f)) qual && ((match K.lookup (codOf K f) with
    | some ⟨_, _, .fields vs, _⟩ => (match ((vs : Array Value)[2]? : Option Value) with
      | some (.str x _) => file == x
      | _ => false)
    | _ => false) && (match K.lookup (celOf K f) with
    | some ⟨_, _, .cell (some v), _⟩ => decide (v = .ref D)
    | _ => false)))
theorem supB_ok {P : Program} {K : PySem.W.Frag} {D : Addr} {d : He.DefD} (e : fnC K d.at_ = valC d) (h : supB K P.main.file D (He.fAd K d.at_) d.qual = true) (ht : (P.main.scope.names.lookup ("super" : Str)).isSome = false) :
    SupD P K d.name d.qual d.params d.body d.scope (He.fAd K d.at_) (celOf K (He.fAd K d.at_)) (codOf K (He.fAd K d.at_)) D (fnAt K (He.fAd K d.at_)) := by
  unfold supB at h
  obtain ⟨h1, h⟩ := He.ba h
  obtain ⟨h2, h⟩ := He.ba h
  obtain ⟨h3, h4⟩ := He.ba h
  refine ⟨?_, h2, ?_, ?_, ht⟩
  · unfold fnC at e
    cases q : K.lookup (He.fAd K d.at_) with
    | none =>
      rw [q] at h1
      cases h1
    | some o =>
      obtain ⟨oc, od, dt, osl⟩ := o
      rw [q] at h1 e
      cases dt with
      | func fd =>
        have ea : fnAt K (He.fAd K d.at_) = fd := by
          unfold fnAt
          rw [q]
        have ec : celOf K (He.fAd K d.at_) = (match fd.closure with
          | (_, c) :: _ => c
          | [] => 0) := by
          unfold celOf
          rw [q]
        obtain ⟨g1, g2⟩ := He.ba h1
        obtain ⟨g2, g3⟩ := He.ba g2
        obtain ⟨n1, n2, n3, n4, n5, n6, n7, n8, n9, n10, n11, n12, n13, n14, n15⟩ := fd
        have e2 : (some (n1, n2, n3, n4, n5, n6, n7.map (·.1), n15) : FnC) = some (d.name, d.qual, d.params, FuncBody.stmts d.body, d.scope, mainGlobals, [("__class__" : Str)], builtinsNs) := e
        simp only [Option.some.injEq, Prod.mk.injEq] at e2
        obtain ⟨i1, i2, i3, i4, i5, i6, i7, i8⟩ := e2
        subst i1 i2 i3 i4 i5 i6 i8
        have j1 : n8 = .none := of_decide_eq_true g1
        have j2 : n9 = .none := of_decide_eq_true g2
        have j3 : n13 = .ref (codOf K (He.fAd K d.at_)) := of_decide_eq_true g3
        subst j1 j2
        match n7, i7, ec with
        | [(a, c)], i7, ec =>
          have i7 : [a] = [("__class__" : Str)] := i7
          cases i7
          have ec : celOf K (He.fAd K d.at_) = c := ec
          refine ⟨oc, od, n10, n11, n12, n14, osl, ?_, by rw [ea]⟩
          rw [ea, ec, j3]
      | _ => cases h1
  · split at h3
    · rename_i a b vs c q
      split at h3
      · rename_i x t hv
        exact ⟨_, _, vs, _, x, t, q, hv, h3⟩
      · cases h3
    · cases h3
  · split at h4
    · rename_i a b v c q
      have e3 := of_decide_eq_true h4
      subst e3
      exact ⟨_, _, _, q⟩
    · cases h4
def supMB (K : PySem.W.Frag) (C D : Addr) (m : Str) (g : Addr) : Bool := (PySem.W.clsIn K C).isSome && ((PySem.W.clsIn K D).isSome && (decide (PySem.W.mroIn K C (.ref D) = some true) && (He.eqO (PySem.W.nsIn K cStatics "thirdparty.any") (some none) &&
  (He.eqO (PySem.W.ks_superIn K C D m) (some (some (.ref g))) && (decide (PySem.W.typeIn K (.ref g) = some (.type "function")) && PySem.W.fnIn K g)))))
theorem supMB_ok {K : PySem.W.Frag} {C D g : Addr} {m : Str} (h : supMB K C D m g = true) : SupM K C D m g := by
  unfold supMB at h
  obtain ⟨h1, h⟩ := He.ba h
  obtain ⟨h2, h⟩ := He.ba h
  obtain ⟨h3, h⟩ := He.ba h
  obtain ⟨h4, h⟩ := He.ba h
  obtain ⟨h5, h⟩ := He.ba h
  obtain ⟨h6, h7⟩ := He.ba h
  exact ⟨Option.isSome_iff_exists.mp h1, Option.isSome_iff_exists.mp h2, of_decide_eq_true h3, He.eqO_ok h4, He.eqO_ok h5, of_decide_eq_true h6, h7⟩
def unbB (K : PySem.W.Frag) (C : Addr) (m : Str) (g : Addr) : Bool := PySem.W.readsIn K C (.type "type") && (He.eqO (PySem.W.specialIn K (.ref C) "__getattribute__") (some (some (.builtin "type.__getattribute__"))) && (match PySem.W.findCls K (.ref C) (.type "type") m with
  | some (.val v) => decide (v = .ref g)
  | _ => false))
theorem unbB_ok {K : PySem.W.Frag} {C g : Addr} {m : Str} (h : unbB K C m g = true) : ClX.CRead K C (.type "type") ∧ ClX.CVal K C (.type "type") m (.ref g) (.ref g) := by
  unfold unbB at h
  obtain ⟨h1, h⟩ := He.ba h
  obtain ⟨h2, h3⟩ := He.ba h
  refine ⟨⟨h1, He.eqO_ok h2⟩, ?_, rfl⟩
  split at h3
  · rename_i v q
    rw [of_decide_eq_true h3] at q
    exact q
  · cases h3
theorem fnC_at {K : PySem.W.Frag} {sf : List He.DefD} (h : sf.map (fun d => fnC K d.at_) = sf.map valC) (i : Nat) {d : He.DefD} (e : sf[i]? = some d := by rfl) : fnC K d.at_ = valC d := by
  have z := congrArg (fun l => l[i]?) h
  simp only [List.getElem?_map, e, Option.map_some, Option.some.injEq] at z
  exact z
end Ov

/-! ### a head's hook over what some names of the module reach (less memory than over all) -/
namespace Ov
open PySem PySem.Spec PyProof.Rows L2
def rootsN (K0 : PySem.W.Frag) (xs : List Str) : List Addr := xs.filterMap fun x => match PySem.W.nsIn K0 mainGlobals x with
  | some (some (.ref a)) => some a
  | _ => none
def growN (g : Addr → Option Obj) (as : List Addr) : Nat → List Addr
  | 0 => as
  | n + 1 => He.growD g (growN g as n)
def asN (g : Addr → Option Obj) (xs : List Str) (n : Nat) : List Addr := cStatics :: mainGlobals :: growN g (rootsN (He.frG g [mainGlobals]) xs) n
def obsN (n : Nat) (xs : List Str) (fa : List He.Fa) (fn : List He.DefD) (ts : List He.Tab) (tf : List He.Defn) (ex : PySem.W.Frag → Bool) (g : Addr → Option Obj) : He.AlX :=
  (fun K => (He.obsT fa fn ts K, ex K && He.tabsB g tf K)) (He.frT g (asN g xs n))
theorem saysN_at {g : Addr → Option Obj} {h : Heap} {as : List Addr} {fa : List He.Fa} {fn : List He.DefD} {ts : List He.Tab} {tf : List He.Defn} {ex : PySem.W.Frag → Bool} {w : World} (hg : g = h.get?) (e1 : He.obsT fa fn ts (He.frT g as) = He.valT fn ts w) (e2 : (ex (He.frT g as) && He.tabsB g tf (He.frT g as)) = true) : He.SaysX fa fn ts tf ex w h (He.frT g as) := by
  obtain ⟨m, tb⟩ := He.ba e2
  have one : ∀ p ∈ tf, PySem.W.codeHdIn (He.frT g as) (He.cT (He.frT g as) p).1 (He.cT (He.frT g as) p).2 = true ∧ ∃ o, g (He.cT (He.frT g as) p).2 = some o ∧ He.emptyTab o = true := by
    intro p hp
    obtain ⟨c1, c2⟩ := He.ba (List.all_eq_true.mp tb p hp)
    generalize hq : g (He.cT (He.frT g as) p).2 = q at c2
    match q, c2 with
    | some o, c2 => exact ⟨c1, o, rfl, c2⟩
  constructor
  · exact e1
  · exact m
  · exact fun p hp => (one p hp).1
  · intro p hp
    obtain ⟨_, o, z1, z2⟩ := one p hp
    exact He.frT_none z1 z2
  · intro p hp
    obtain ⟨_, o, z1, z2⟩ := one p hp
    rw [← hg, z1, He.emptyTab_eq z2]
/-- the run's equation in two -/
def PartN0 (r : PySem.W.OpenRow) (q : Program) (names : List PySem.Str) (M : Nat) (w : World) : Prop :=
  ∀ os : PySem.OsState, (HandSHeadRun.endF (HandSHeadRun.stepQ (HandSHeadRun.denQ HandSHeadRun.tabQ) r.prog w) M r.prog w os).map (fun s => (HandSHeadRun.looksF r.prog (PySem.W.boot_heap w.params) s.abs, HandSHeadRun.seenQ q names (importedModules r.prog.main.body) (fun s => PySem.W.xlAt q [] s && PySem.W.recOk r.toRowW.records s) s.abs)) = some (true, PySem.W.openGood q names)
def PartN1 (n : Nat) (xs : List Str) (fa : List He.Fa) (fn : List He.DefD) (ts : List He.Tab) (tf : List He.Defn) (ex : PySem.W.Frag → Bool) (r : PySem.W.OpenRow) (M : Nat) (w : World) : Prop :=
  ∀ os : PySem.OsState, (HandSHeadRun.endF (HandSHeadRun.stepQ (HandSHeadRun.denQ HandSHeadRun.tabQ) r.prog w) M r.prog w os).map (fun s => obsN n xs fa fn ts tf ex (HandSHeadRun.getT s)) = some (He.valX fn ts w)
theorem mapn_some {α β : Type} {o : Option α} {f : α → β} {v : β} (h : o.map f = some v) : ∃ s, o = some s ∧ f s = v := by
  cases o with
  | none => cases h
  | some s => exact ⟨s, rfl, Option.some.inj h⟩
end Ov

/-! ### a head's hook over what some names reach (OvHookN), with the defs that say super() (OvSup3); by parts -/
namespace Ov
open PySem PySem.Spec PyProof.Rows L2
def obsM (n : Nat) (xs : List Str) (fa : List He.Fa) (fn : List He.DefD) (ts : List He.Tab) (tf : List He.Defn) (ex : PySem.W.Frag → Bool) (sf : List He.DefD) (g : Addr → Option Obj) : He.AlX × List FnC :=
  (obsN n xs fa fn ts tf ex g, sf.map fun d => fnC (He.frT g (asN g xs n)) d.at_)
def hookM (n : Nat) (xs : List Str) (fa : List He.Fa) (fn : List He.DefD) (ts : List He.Tab) (tf : List He.Defn) (ex : PySem.W.Frag → Bool) (sf : List He.DefD) : PySem.W.Hook where
  α := He.AlX × List FnC
  obs := fun s => obsM n xs fa fn ts tf ex sf s.heap.get?
  val := fun w => (He.valX fn ts w, sf.map valC)
  says := fun w h => ∃ K : PySem.W.Frag, K.In h ∧ He.SaysX fa fn ts tf ex w h K ∧ sf.map (fun d => fnC K d.at_) = sf.map valC
  of := fun _ _ e => ⟨_, He.frT_in, saysN_at rfl (congrArg (fun z => z.1.1) e) (congrArg (fun z => z.1.2) e), congrArg (·.2) e⟩
  keeps := fun _ _ _ ⟨K, hK, c, z⟩ k => ⟨K, PySem.W.Frag.In.keeps hK k, ⟨c.t, c.more, c.hd, c.out, fun p hp => k _ _ (c.empty p hp)⟩, z⟩
theorem obsM_eq {n : Nat} {xs : List Str} {fa : List He.Fa} {fn : List He.DefD} {ts : List He.Tab} {tf : List He.Defn} {ex : PySem.W.Frag → Bool} {sf : List He.DefD} {g : Addr → Option Obj} {s : Shared} (h : ∀ a, g a = s.heap.get? a) : obsM n xs fa fn ts tf ex sf g = (hookM n xs fa fn ts tf ex sf).obs s := by
  obtain rfl : g = s.heap.get? := funext h
  rfl
/-- the tables' facts, and the defs that say super() -/
def PartM1 (n : Nat) (xs : List Str) (fa : List He.Fa) (fn : List He.DefD) (ts : List He.Tab) (tf : List He.Defn) (ex : PySem.W.Frag → Bool) (sf : List He.DefD) (r : PySem.W.OpenRow) (M : Nat) (w : World) : Prop :=
  ∀ os : PySem.OsState, (HandSHeadRun.endF (HandSHeadRun.stepQ (HandSHeadRun.denQ HandSHeadRun.tabQ) r.prog w) M r.prog w os).map (fun s => obsM n xs fa fn ts tf ex sf (HandSHeadRun.getT s)) = some (He.valX fn ts w, sf.map valC)
theorem runM_join {n : Nat} {xs : List Str} {fa : List He.Fa} {fn : List He.DefD} {ts : List He.Tab} {tf : List He.Defn} {ex : PySem.W.Frag → Bool} {sf : List He.DefD} {r : PySem.W.OpenRow} {q : Program} {M : Nat} {names : List PySem.Str} {w : World}
    (hA : PartN0 r q names M w) (hB : PartM1 n xs fa fn ts tf ex sf r M w) :
    HandSHeadRun.RunEq r q (hookM n xs fa fn ts tf ex sf) (fun s => obsM n xs fa fn ts tf ex sf (HandSHeadRun.getT s)) M names w := by
  intro os
  obtain ⟨s, es, e1⟩ := mapn_some (hA os)
  obtain ⟨s2, es2, e2⟩ := mapn_some (hB os)
  obtain rfl : s = s2 := Option.some.inj (es.symm.trans es2)
  rw [es]
  exact congrArg some (Prod.ext (congrArg (fun z => z.1) e1) (Prod.ext (congrArg (fun z => z.2) e1) e2))
/-- the facts of names and defs, and the rest -/
theorem partM1_join {n : Nat} {xs : List Str} {fa : List He.Fa} {fn : List He.DefD} {ts : List He.Tab} {tf : List He.Defn} {ex : PySem.W.Frag → Bool} {sf : List He.DefD} {r : PySem.W.OpenRow} {M : Nat} {w : World}
    (hB : PartN1 n xs fa fn [] [] (fun _ => true) r M w) (hC : PartM1 n xs [] [] ts tf ex sf r M w) : PartM1 n xs fa fn ts tf ex sf r M w := by
  intro os
  obtain ⟨s2, es2, e2⟩ := mapn_some (hB os)
  obtain ⟨s3, es3, e3⟩ := mapn_some (hC os)
  obtain rfl : s2 = s3 := Option.some.inj (es2.symm.trans es3)
  rw [es2]
  show some _ = some _
  have b1 := congrArg (fun z => z.1.1.1) e2
  have b2 := congrArg (fun z => z.1.1.2) e2
  have c1 := congrArg (fun z => z.1.1.2) e3
  have c2 := congrArg (fun z => z.1.2) e3
  have c3 := congrArg (fun z => z.2) e3
  simp only [obsM, obsN, He.valX, He.obsT, He.valT, He.obsD, He.valD, List.all_nil, Bool.and_true, Bool.true_and] at b1 b2 c1 c2 c3
  refine congrArg some ?_
  unfold obsM obsN
  simp only [He.valX, He.obsT, He.valT, He.obsD, He.valD]
  rw [b1, b2, c2, c3]
  have c1' := congrArg (fun z => z.2) e3
  have d := congrArg (fun z => z.1.1.2) e3
  simp only [obsM, obsN, He.valX, He.obsT, He.valT] at d
  rw [d]
end Ov

namespace K07
open PySem PySem.Spec PyProof.Rows L2
/-! ### the text by places -/
def top (i : Nat) : Stmt := PySem.Challenge.pw_overlayhall_k07_whole_other_trees_say_th.main.body.getD i (.Pass ⟨0, 0, 0, 0⟩)
abbrev s_between : Stmt := top 9
abbrev s_given_of : Stmt := top 14
abbrev s_arms_of : Stmt := top 15
abbrev s_words_of : Stmt := top 16
abbrev s_add_word : Stmt := top 17
abbrev s_check_program : Stmt := top 24
abbrev s_check_function : Stmt := top 25
abbrev s_function_fits : Stmt := top 26
abbrev s_word_fits : Stmt := top 27
abbrev s_given_fits : Stmt := top 28
abbrev s_numbered : Stmt := top 29
abbrev s_check_tree : Stmt := top 32
abbrev s_parts_fit : Stmt := top 33
abbrev s_part_fits : Stmt := top 34
abbrev s_rises : Stmt := top 35
abbrev s_stands_fit : Stmt := top 36
abbrev s_has_end : Stmt := top 37
abbrev s_parts_below : Stmt := top 38
abbrev s_size_of : Stmt := top 39
abbrev s_begins : Stmt := top 40
abbrev s_firsts_of : Stmt := top 41
abbrev s_end_of : Stmt := top 42
abbrev s_way_of : Stmt := top 43
abbrev s_check_room : Stmt := top 47
abbrev s_layouts : Stmt := top 48
abbrev s_check_number : Stmt := top 54
abbrev s_number_in : Stmt := top 56
abbrev s_end_of_way : Stmt := top 57
abbrev s_reckoned : Stmt := top 58
abbrev s_run_in : Stmt := top 62
abbrev s_room_run : Stmt := top 63
abbrev s_check_places : Stmt := top 64
abbrev s_calls_at : Stmt := top 65
abbrev s_run : Stmt := top 67
abbrev s_traced : Stmt := top 68
abbrev s_plain_run : Stmt := top 69
abbrev s_law_mix : Stmt := top 71
abbrev s_law_next : Stmt := top 72
abbrev s_law_alike : Stmt := top 73
abbrev s_law_leaf : Stmt := top 74
abbrev s_law_call : Stmt := top 75
abbrev s_law_less : Stmt := top 76
abbrev s_law_body : Stmt := top 77
abbrev s_law_words : Stmt := top 78
abbrev s_law_program : Stmt := top 79
abbrev s_law_tree : Stmt := top 80
abbrev s_law_laid : Stmt := top 81
abbrev s_law_number : Stmt := top 82
abbrev s_law_renamed : Stmt := top 83
abbrev s_law_other : Stmt := top 84
abbrev s_law : Stmt := top 85
abbrev s_BadProgram_init : Stmt := inClass (top 2) 0
abbrev s_Hall_init : Stmt := inClass (top 46) 0
abbrev s_Hall_look : Stmt := inClass (top 46) 1
abbrev s_Hall_there : Stmt := inClass (top 46) 2
abbrev s_Hall_cells : Stmt := inClass (top 46) 3
abbrev s_Hall_brought : Stmt := inClass (top 46) 4
abbrev s_Hall_has_part : Stmt := inClass (top 46) 5
abbrev s_Hall_bring : Stmt := inClass (top 46) 6
abbrev s_Fault_init : Stmt := inClass (top 53) 0
abbrev s_Run_init : Stmt := inClass (top 55) 0
abbrev s_Run_begin : Stmt := inClass (top 55) 1
abbrev s_Run_worth : Stmt := inClass (top 55) 2
abbrev s_Run_say : Stmt := inClass (top 55) 3
abbrev s_Run_call : Stmt := inClass (top 55) 4
abbrev s_Run_enter : Stmt := inClass (top 55) 5
abbrev s_Run_come_back : Stmt := inClass (top 55) 6
abbrev s_Lost_init : Stmt := inClass (top 60) 0
abbrev s_RoomRun_init : Stmt := inClass (top 61) 0
abbrev s_RoomRun_begin : Stmt := inClass (top 61) 1
abbrev s_RoomRun_enter : Stmt := inClass (top 61) 2
abbrev s_RoomRun_come_back : Stmt := inClass (top 61) 3
abbrev s_RoomRun_go_on : Stmt := inClass (top 61) 4
abbrev FnP (K : PySem.W.Frag) (x q : Str) (st : Stmt) (f : Addr) (fd : FuncData) : Prop := FunD K x q (defArgs st) (defBody st) (defScope st) [] [] f fd
/-! ### the head: facts by names, the run -/
def d_between : He.DefD := ⟨("between", none), "between", "between", defArgs s_between, defBody s_between, defScope s_between, [], []⟩
def d_given_of : He.DefD := ⟨("given_of", none), "given_of", "given_of", defArgs s_given_of, defBody s_given_of, defScope s_given_of, [], []⟩
def d_arms_of : He.DefD := ⟨("arms_of", none), "arms_of", "arms_of", defArgs s_arms_of, defBody s_arms_of, defScope s_arms_of, [], []⟩
def d_words_of : He.DefD := ⟨("words_of", none), "words_of", "words_of", defArgs s_words_of, defBody s_words_of, defScope s_words_of, [], []⟩
def d_add_word : He.DefD := ⟨("add_word", none), "add_word", "add_word", defArgs s_add_word, defBody s_add_word, defScope s_add_word, [], []⟩
def d_check_program : He.DefD := ⟨("check_program", none), "check_program", "check_program", defArgs s_check_program, defBody s_check_program, defScope s_check_program, [], []⟩
def d_check_function : He.DefD := ⟨("check_function", none), "check_function", "check_function", defArgs s_check_function, defBody s_check_function, defScope s_check_function, [], []⟩
def d_function_fits : He.DefD := ⟨("function_fits", none), "function_fits", "function_fits", defArgs s_function_fits, defBody s_function_fits, defScope s_function_fits, [], []⟩
def d_word_fits : He.DefD := ⟨("word_fits", none), "word_fits", "word_fits", defArgs s_word_fits, defBody s_word_fits, defScope s_word_fits, [], []⟩
def d_given_fits : He.DefD := ⟨("given_fits", none), "given_fits", "given_fits", defArgs s_given_fits, defBody s_given_fits, defScope s_given_fits, [], []⟩
def d_numbered : He.DefD := ⟨("numbered", none), "numbered", "numbered", defArgs s_numbered, defBody s_numbered, defScope s_numbered, [], []⟩
def d_check_tree : He.DefD := ⟨("check_tree", none), "check_tree", "check_tree", defArgs s_check_tree, defBody s_check_tree, defScope s_check_tree, [], []⟩
def d_parts_fit : He.DefD := ⟨("parts_fit", none), "parts_fit", "parts_fit", defArgs s_parts_fit, defBody s_parts_fit, defScope s_parts_fit, [], []⟩
def d_part_fits : He.DefD := ⟨("part_fits", none), "part_fits", "part_fits", defArgs s_part_fits, defBody s_part_fits, defScope s_part_fits, [], []⟩
def d_rises : He.DefD := ⟨("rises", none), "rises", "rises", defArgs s_rises, defBody s_rises, defScope s_rises, [], []⟩
def d_stands_fit : He.DefD := ⟨("stands_fit", none), "stands_fit", "stands_fit", defArgs s_stands_fit, defBody s_stands_fit, defScope s_stands_fit, [], []⟩
def d_has_end : He.DefD := ⟨("has_end", none), "has_end", "has_end", defArgs s_has_end, defBody s_has_end, defScope s_has_end, [], []⟩
def d_parts_below : He.DefD := ⟨("parts_below", none), "parts_below", "parts_below", defArgs s_parts_below, defBody s_parts_below, defScope s_parts_below, [], []⟩
def d_size_of : He.DefD := ⟨("size_of", none), "size_of", "size_of", defArgs s_size_of, defBody s_size_of, defScope s_size_of, [], []⟩
def d_begins : He.DefD := ⟨("begins", none), "begins", "begins", defArgs s_begins, defBody s_begins, defScope s_begins, [], []⟩
def d_firsts_of : He.DefD := ⟨("firsts_of", none), "firsts_of", "firsts_of", defArgs s_firsts_of, defBody s_firsts_of, defScope s_firsts_of, [], []⟩
def d_end_of : He.DefD := ⟨("end_of", none), "end_of", "end_of", defArgs s_end_of, defBody s_end_of, defScope s_end_of, [], []⟩
def d_way_of : He.DefD := ⟨("way_of", none), "way_of", "way_of", defArgs s_way_of, defBody s_way_of, defScope s_way_of, [], []⟩
def d_check_room : He.DefD := ⟨("check_room", none), "check_room", "check_room", defArgs s_check_room, defBody s_check_room, defScope s_check_room, [], []⟩
def d_layouts : He.DefD := ⟨("layouts", none), "layouts", "layouts", defArgs s_layouts, defBody s_layouts, defScope s_layouts, [], []⟩
def d_check_number : He.DefD := ⟨("check_number", none), "check_number", "check_number", defArgs s_check_number, defBody s_check_number, defScope s_check_number, [], []⟩
def d_number_in : He.DefD := ⟨("number_in", none), "number_in", "number_in", defArgs s_number_in, defBody s_number_in, defScope s_number_in, [], []⟩
def d_end_of_way : He.DefD := ⟨("end_of_way", none), "end_of_way", "end_of_way", defArgs s_end_of_way, defBody s_end_of_way, defScope s_end_of_way, [], []⟩
def d_reckoned : He.DefD := ⟨("reckoned", none), "reckoned", "reckoned", defArgs s_reckoned, defBody s_reckoned, defScope s_reckoned, [], []⟩
def d_run_in : He.DefD := ⟨("run_in", none), "run_in", "run_in", defArgs s_run_in, defBody s_run_in, defScope s_run_in, [], []⟩
def d_room_run : He.DefD := ⟨("room_run", none), "room_run", "room_run", defArgs s_room_run, defBody s_room_run, defScope s_room_run, [], []⟩
def d_check_places : He.DefD := ⟨("check_places", none), "check_places", "check_places", defArgs s_check_places, defBody s_check_places, defScope s_check_places, [], []⟩
def d_calls_at : He.DefD := ⟨("calls_at", none), "calls_at", "calls_at", defArgs s_calls_at, defBody s_calls_at, defScope s_calls_at, [], []⟩
def d_run : He.DefD := ⟨("run", none), "run", "run", defArgs s_run, defBody s_run, defScope s_run, [], []⟩
def d_traced : He.DefD := ⟨("traced", none), "traced", "traced", defArgs s_traced, defBody s_traced, defScope s_traced, [], []⟩
def d_plain_run : He.DefD := ⟨("plain_run", none), "plain_run", "plain_run", defArgs s_plain_run, defBody s_plain_run, defScope s_plain_run, [], []⟩
def d_law_mix : He.DefD := ⟨("_law_mix", none), "_law_mix", "_law_mix", defArgs s_law_mix, defBody s_law_mix, defScope s_law_mix, [], []⟩
def d_law_next : He.DefD := ⟨("_law_next", none), "_law_next", "_law_next", defArgs s_law_next, defBody s_law_next, defScope s_law_next, [], []⟩
def d_law_alike : He.DefD := ⟨("_law_alike", none), "_law_alike", "_law_alike", defArgs s_law_alike, defBody s_law_alike, defScope s_law_alike, [], []⟩
def d_law_leaf : He.DefD := ⟨("_law_leaf", none), "_law_leaf", "_law_leaf", defArgs s_law_leaf, defBody s_law_leaf, defScope s_law_leaf, [], []⟩
def d_law_call : He.DefD := ⟨("_law_call", none), "_law_call", "_law_call", defArgs s_law_call, defBody s_law_call, defScope s_law_call, [], []⟩
def d_law_less : He.DefD := ⟨("_law_less", none), "_law_less", "_law_less", defArgs s_law_less, defBody s_law_less, defScope s_law_less, [], []⟩
def d_law_body : He.DefD := ⟨("_law_body", none), "_law_body", "_law_body", defArgs s_law_body, defBody s_law_body, defScope s_law_body, [], []⟩
def d_law_words : He.DefD := ⟨("_law_words", none), "_law_words", "_law_words", defArgs s_law_words, defBody s_law_words, defScope s_law_words, [], []⟩
def d_law_program : He.DefD := ⟨("_law_program", none), "_law_program", "_law_program", defArgs s_law_program, defBody s_law_program, defScope s_law_program, [], []⟩
def d_law_tree : He.DefD := ⟨("_law_tree", none), "_law_tree", "_law_tree", defArgs s_law_tree, defBody s_law_tree, defScope s_law_tree, [], []⟩
def d_law_laid : He.DefD := ⟨("_law_laid", none), "_law_laid", "_law_laid", defArgs s_law_laid, defBody s_law_laid, defScope s_law_laid, [], []⟩
def d_law_number : He.DefD := ⟨("_law_number", none), "_law_number", "_law_number", defArgs s_law_number, defBody s_law_number, defScope s_law_number, [], []⟩
def d_law_renamed : He.DefD := ⟨("_law_renamed", none), "_law_renamed", "_law_renamed", defArgs s_law_renamed, defBody s_law_renamed, defScope s_law_renamed, [], []⟩
def d_law_other : He.DefD := ⟨("_law_other", none), "_law_other", "_law_other", defArgs s_law_other, defBody s_law_other, defScope s_law_other, [], []⟩
def d_law : He.DefD := ⟨("law", none), "law", "law", defArgs s_law, defBody s_law, defScope s_law, [], []⟩
def d_BadProgram_init : He.DefD := ⟨("BadProgram", (some "__init__")), "__init__", "BadProgram.__init__", defArgs s_BadProgram_init, defBody s_BadProgram_init, defScope s_BadProgram_init, [], []⟩
def d_Hall_init : He.DefD := ⟨("Hall", (some "__init__")), "__init__", "Hall.__init__", defArgs s_Hall_init, defBody s_Hall_init, defScope s_Hall_init, [], []⟩
def d_Hall_look : He.DefD := ⟨("Hall", (some "look")), "look", "Hall.look", defArgs s_Hall_look, defBody s_Hall_look, defScope s_Hall_look, [], []⟩
def d_Hall_there : He.DefD := ⟨("Hall", (some "there")), "there", "Hall.there", defArgs s_Hall_there, defBody s_Hall_there, defScope s_Hall_there, [], []⟩
def d_Hall_cells : He.DefD := ⟨("Hall", (some "cells")), "cells", "Hall.cells", defArgs s_Hall_cells, defBody s_Hall_cells, defScope s_Hall_cells, [], []⟩
def d_Hall_brought : He.DefD := ⟨("Hall", (some "brought")), "brought", "Hall.brought", defArgs s_Hall_brought, defBody s_Hall_brought, defScope s_Hall_brought, [], []⟩
def d_Hall_has_part : He.DefD := ⟨("Hall", (some "has_part")), "has_part", "Hall.has_part", defArgs s_Hall_has_part, defBody s_Hall_has_part, defScope s_Hall_has_part, [], []⟩
def d_Hall_bring : He.DefD := ⟨("Hall", (some "bring")), "bring", "Hall.bring", defArgs s_Hall_bring, defBody s_Hall_bring, defScope s_Hall_bring, [], []⟩
def d_Fault_init : He.DefD := ⟨("Fault", (some "__init__")), "__init__", "Fault.__init__", defArgs s_Fault_init, defBody s_Fault_init, defScope s_Fault_init, [], []⟩
def d_Run_init : He.DefD := ⟨("Run", (some "__init__")), "__init__", "Run.__init__", defArgs s_Run_init, defBody s_Run_init, defScope s_Run_init, [], []⟩
def d_Run_begin : He.DefD := ⟨("Run", (some "begin")), "begin", "Run.begin", defArgs s_Run_begin, defBody s_Run_begin, defScope s_Run_begin, [], []⟩
def d_Run_worth : He.DefD := ⟨("Run", (some "worth")), "worth", "Run.worth", defArgs s_Run_worth, defBody s_Run_worth, defScope s_Run_worth, [], []⟩
def d_Run_say : He.DefD := ⟨("Run", (some "say")), "say", "Run.say", defArgs s_Run_say, defBody s_Run_say, defScope s_Run_say, [], []⟩
def d_Run_call : He.DefD := ⟨("Run", (some "call")), "call", "Run.call", defArgs s_Run_call, defBody s_Run_call, defScope s_Run_call, [], []⟩
def d_Run_enter : He.DefD := ⟨("Run", (some "enter")), "enter", "Run.enter", defArgs s_Run_enter, defBody s_Run_enter, defScope s_Run_enter, [], []⟩
def d_Run_come_back : He.DefD := ⟨("Run", (some "come_back")), "come_back", "Run.come_back", defArgs s_Run_come_back, defBody s_Run_come_back, defScope s_Run_come_back, [], []⟩
def d_Lost_init : He.DefD := ⟨("Lost", (some "__init__")), "__init__", "Lost.__init__", defArgs s_Lost_init, defBody s_Lost_init, defScope s_Lost_init, [], []⟩
def d_RoomRun_init : He.DefD := ⟨("RoomRun", (some "__init__")), "__init__", "RoomRun.__init__", defArgs s_RoomRun_init, defBody s_RoomRun_init, defScope s_RoomRun_init, [], []⟩
def d_RoomRun_begin : He.DefD := ⟨("RoomRun", (some "begin")), "begin", "RoomRun.begin", defArgs s_RoomRun_begin, defBody s_RoomRun_begin, defScope s_RoomRun_begin, [], []⟩
def d_RoomRun_enter : He.DefD := ⟨("RoomRun", (some "enter")), "enter", "RoomRun.enter", defArgs s_RoomRun_enter, defBody s_RoomRun_enter, defScope s_RoomRun_enter, [], []⟩
def d_RoomRun_come_back : He.DefD := ⟨("RoomRun", (some "come_back")), "come_back", "RoomRun.come_back", defArgs s_RoomRun_come_back, defBody s_RoomRun_come_back, defScope s_RoomRun_come_back, [], []⟩
def d_RoomRun_go_on : He.DefD := ⟨("RoomRun", (some "go_on")), "go_on", "RoomRun.go_on", defArgs s_RoomRun_go_on, defBody s_RoomRun_go_on, defScope s_RoomRun_go_on, [], []⟩
def fn : List He.DefD := [d_between, d_given_of, d_arms_of, d_words_of, d_add_word, d_check_program, d_check_function, d_function_fits, d_word_fits, d_given_fits, d_numbered, d_check_tree, d_parts_fit, d_part_fits, d_rises, d_stands_fit, d_has_end, d_parts_below, d_size_of, d_begins, d_firsts_of, d_end_of, d_way_of, d_check_room, d_layouts, d_check_number, d_number_in, d_end_of_way, d_reckoned, d_run_in, d_room_run, d_check_places, d_run, d_traced, d_plain_run, d_law_mix, d_law_next, d_law_alike, d_law_leaf, d_law_call, d_law_less, d_law_body, d_law_words, d_law_program, d_law_tree, d_law_laid, d_law_number, d_law_renamed, d_law_other, d_law, d_Hall_init, d_Hall_look, d_Hall_there, d_Hall_cells, d_Hall_brought, d_Hall_has_part, d_Hall_bring, d_Fault_init, d_Run_init, d_Run_begin, d_Run_worth, d_Run_say, d_Run_call, d_Run_enter, d_Run_come_back, d_RoomRun_init, d_RoomRun_go_on]
def fa : List He.Fa := [.glo "HallError", .glo "BadProgram", .glo "BadNumber", .glo "BadTree", .glo "BadRoom", .glo "BadFunction", .glo "BadPlace", .glo "between", .glo "ARMS", .glo "GIVEN", .glo "CALLS", .glo "given_of", .glo "arms_of", .glo "words_of", .glo "add_word", .glo "check_program", .glo "check_function", .glo "function_fits", .glo "word_fits", .glo "given_fits", .glo "numbered", .glo "check_tree", .glo "parts_fit", .glo "part_fits", .glo "rises", .glo "stands_fit", .glo "has_end", .glo "parts_below", .glo "size_of", .glo "begins", .glo "firsts_of", .glo "end_of", .glo "way_of", .glo "Hall", .glo "check_room", .glo "layouts", .glo "Fault", .glo "check_number", .glo "Run", .glo "number_in", .glo "end_of_way", .glo "reckoned", .glo "Lost", .glo "RoomRun", .glo "run_in", .glo "room_run", .glo "check_places", .glo "calls_at", .glo "run", .glo "traced", .glo "plain_run", .glo "_law_mix", .glo "_law_next", .glo "_law_alike", .glo "_law_leaf", .glo "_law_call", .glo "_law_less", .glo "_law_body", .glo "_law_words", .glo "_law_program", .glo "_law_tree", .glo "_law_laid", .glo "_law_number", .glo "_law_renamed", .glo "_law_other", .glo "law", .free "Exception", .free "ValueError", .free "all", .free "bool", .free "enumerate", .free "int", .free "isinstance", .free "len", .free "list", .free "max", .free "range", .free "set", .free "sorted", .free "str", .free "sum", .free "super", .free "tuple", .free "zip", .int "MOST_FUNCTIONS" 8, .int "MOST_CELLS" 8, .int "MOST_WORDS" 40, .int "MOST_AROUND" 6, .int "GREATEST_WRITTEN" 99, .int "NO_PART" (-1), .int "MOST_ROOM" 64, .int "NUMBERS" 1000, .int "MOST_OTHERS" 12, .int "MOST_CALLS" 200, .cls "Hall", .mkr "Hall", .meth "Hall" "look", .meth "Hall" "there", .meth "Hall" "cells", .meth "Hall" "brought", .meth "Hall" "has_part", .meth "Hall" "bring", .noat "Hall" "layouts", .noat "Hall" "lying", .noat "Hall" "moved", .noat "Hall" "ways", .cls "Run", .mkr "Run", .meth "Run" "begin", .meth "Run" "worth", .meth "Run" "say", .meth "Run" "call", .meth "Run" "enter", .meth "Run" "come_back", .noat "Run" "bodies", .noat "Run" "calls", .noat "Run" "others", .noat "Run" "row", .noat "Run" "said", .noat "Run" "told", .cls "RoomRun", .mkr "RoomRun", .meth "RoomRun" "begin", .meth "RoomRun" "enter", .meth "RoomRun" "come_back", .meth "RoomRun" "go_on", .meth "RoomRun" "worth", .meth "RoomRun" "say", .meth "RoomRun" "call", .noat "RoomRun" "ahead", .noat "RoomRun" "back", .noat "RoomRun" "bodies", .noat "RoomRun" "calls", .noat "RoomRun" "hall", .noat "RoomRun" "looks", .noat "RoomRun" "others", .noat "RoomRun" "row", .noat "RoomRun" "said", .noat "RoomRun" "told", .exc "HallError", .exc "BadNumber", .exc "BadTree", .exc "BadRoom", .exc "BadFunction", .exc "BadPlace", .exm "HallError" "HallError" true, .exm "BadNumber" "BadNumber" true, .exm "BadNumber" "HallError" true, .exm "BadTree" "BadTree" true, .exm "BadTree" "HallError" true, .exm "BadRoom" "BadRoom" true, .exm "BadRoom" "HallError" true, .exm "BadFunction" "BadFunction" true, .exm "BadFunction" "HallError" true, .exm "BadPlace" "BadPlace" true, .exm "BadPlace" "HallError" true]
def kv_ARMS : List (Str × He.Dv) := [("num", .int 0), ("argument", .int 0), ("way", .int 0), ("plus", .int 2), ("less", .int 2), ("times", .int 2), ("if", .int 3), ("then", .int 2), ("say", .int 1), ("call", .int 1), ("through", .int 2)]
def kv_GIVEN : List (Str × He.Dv) := [("num", .str "number"), ("way", .str "function"), ("call", .str "function")]
def miss_ARMS : List Str := []
def miss_GIVEN : List Str := ["argument", "plus", "less", "times", "if", "then", "say", "through"]
def tf : List He.Defn := []
def ts : List He.Tab := [(fun K => He.ga K "ARMS", ["num", "argument", "way", "plus", "less", "times", "if", "then", "say", "call", "through"]), (fun K => He.ga K "GIVEN", ["num", "way", "call"])]
def ex (K : PySem.W.Frag) : Bool := He.valsB K (He.ga K "ARMS") kv_ARMS && He.valsB K (He.ga K "GIVEN") kv_GIVEN && (miss_GIVEN.all fun x => He.eqO (PySem.W.nsIn K (He.ga K "GIVEN") x) (some none)) && Ov.supB K PySem.Challenge.pw_overlayhall_k07_whole_other_trees_say_th.main.file (He.ga K "RoomRun") (He.ma K (He.ga K "RoomRun") "begin") "RoomRun.begin" && Ov.supMB K (He.ga K "RoomRun") (He.ga K "RoomRun") "begin" (He.ma K (He.ga K "Run") "begin") && Ov.supB K PySem.Challenge.pw_overlayhall_k07_whole_other_trees_say_th.main.file (He.ga K "RoomRun") (He.ma K (He.ga K "RoomRun") "enter") "RoomRun.enter" && Ov.supMB K (He.ga K "RoomRun") (He.ga K "RoomRun") "enter" (He.ma K (He.ga K "Run") "enter") && Ov.supB K PySem.Challenge.pw_overlayhall_k07_whole_other_trees_say_th.main.file (He.ga K "RoomRun") (He.ma K (He.ga K "RoomRun") "come_back") "RoomRun.come_back" && Ov.supMB K (He.ga K "RoomRun") (He.ga K "RoomRun") "come_back" (He.ma K (He.ga K "Run") "come_back") && decide ((He.ma K (He.ga K "RoomRun") "worth") = (He.ma K (He.ga K "Run") "worth")) && decide ((He.ma K (He.ga K "RoomRun") "say") = (He.ma K (He.ga K "Run") "say")) && decide ((He.ma K (He.ga K "RoomRun") "call") = (He.ma K (He.ga K "Run") "call")) && Ov.unbB K (He.ga K "Run") "__init__" (He.ma K (He.ga K "Run") "__init__") && Ov.fltB K (He.ga K "Fault") (He.ma K (He.ga K "Fault") "__init__")
abbrev R : PySem.W.OpenRow := PySem.W.OpenLaw.row PySem.Challenge.rw_overlayhall_k07_whole_other_trees_say_th
def rt0 : List PySem.Str := ["HallError", "BadProgram", "BadNumber", "BadTree", "BadRoom", "BadFunction", "BadPlace", "between", "ARMS", "GIVEN", "given_of", "arms_of", "words_of", "add_word", "check_program", "check_function", "function_fits", "word_fits", "given_fits", "numbered", "check_tree", "parts_fit", "part_fits", "rises", "stands_fit", "has_end", "parts_below", "size_of", "begins", "firsts_of"]
def rt1 : List PySem.Str := ["end_of", "way_of", "Hall", "check_room", "layouts", "Fault", "check_number", "Run", "number_in", "end_of_way", "reckoned", "RoomRun", "run_in", "room_run", "check_places", "run", "traced", "plain_run", "_law_mix", "_law_next", "_law_alike", "_law_leaf", "_law_call", "_law_less", "_law_body", "_law_words", "_law_program", "_law_tree", "_law_laid", "_law_number"]
def rt2 : List PySem.Str := ["_law_renamed", "_law_other", "law"]
def rt : List PySem.Str := rt0 ++ rt1 ++ rt2
def sf : List He.DefD := [d_RoomRun_begin, d_RoomRun_enter, d_RoomRun_come_back]
abbrev hk : PySem.W.Hook := Ov.hookM 3 rt fa fn ts tf ex sf
def ob (s : PySem.W.SharedT) : He.AlX × List Ov.FnC := Ov.obsM 3 rt fa fn ts tf ex sf (HandSHeadRun.getT s)
theorem ob_eq (s : PySem.W.SharedT) : ob s = hk.obs s.abs := Ov.obsM_eq (HandSHeadRun.getT_eq s)
def names0 : List PySem.Str := ["HallError", "BadProgram", "BadNumber", "BadTree", "BadRoom", "BadFunction", "BadPlace", "between", "ARMS", "GIVEN", "CALLS", "given_of", "arms_of", "words_of", "add_word", "MOST_FUNCTIONS", "MOST_CELLS", "MOST_WORDS", "MOST_AROUND", "GREATEST_WRITTEN", "check_program", "check_function", "function_fits", "word_fits", "given_fits", "numbered", "NO_PART", "check_tree", "parts_fit", "part_fits"]
def names1 : List PySem.Str := ["rises", "stands_fit", "has_end", "parts_below", "size_of", "begins", "firsts_of", "end_of", "way_of", "MOST_ROOM", "Hall", "check_room", "layouts", "NUMBERS", "MOST_OTHERS", "MOST_CALLS", "Fault", "check_number", "Run", "number_in", "end_of_way", "reckoned", "Lost", "RoomRun", "run_in", "room_run", "check_places", "calls_at", "run", "traced"]
def names2 : List PySem.Str := ["plain_run", "_law_mix", "_law_next", "_law_alike", "_law_leaf", "_law_call", "_law_less", "_law_body", "_law_words", "_law_program", "_law_tree", "_law_laid", "_law_number", "_law_renamed", "_law_other"]
def names : List PySem.Str := names0 ++ names1 ++ names2
abbrev RunP (w : World) : Prop := HandSHeadRun.RunEq R (PySem.W.view R.prog [85]) hk ob 9000 names w
abbrev RunA (w : World) : Prop := Ov.PartN0 R (PySem.W.view R.prog [85]) names 9000 w
abbrev RunB (w : World) : Prop := Ov.PartN1 3 rt fa fn [] [] (fun _ => true) R 9000 w
abbrev RunC (w : World) : Prop := Ov.PartM1 3 rt [] [] ts tf ex sf R 9000 w
theorem runAF (w : World) : RunA (w.withFollow "special-get-raises" false) := by
  intro os
  kernel_rfl
theorem runAT (w : World) : RunA (w.withFollow "special-get-raises" true) := by
  intro os
  kernel_rfl
theorem runBF (w : World) : RunB (w.withFollow "special-get-raises" false) := by
  intro os
  kernel_rfl
theorem runBT (w : World) : RunB (w.withFollow "special-get-raises" true) := by
  intro os
  kernel_rfl
theorem runCF (w : World) : RunC (w.withFollow "special-get-raises" false) := by
  intro os
  kernel_rfl
theorem runCT (w : World) : RunC (w.withFollow "special-get-raises" true) := by
  intro os
  kernel_rfl
theorem run (w : World) : RunP w := Ov.runM_join (PySem.W.byRow2 "special-get-raises" (P := RunA) runAF runAT w) (Ov.partM1_join (PySem.W.byRow2 "special-get-raises" (P := RunB) runBF runBT w) (PySem.W.byRow2 "special-get-raises" (P := RunC) runCF runCT w))
/-! ### the facts by name -/
def fdOf (K : PySem.W.Frag) (d : He.DefD) : FuncData := match K.lookup (He.fAd K d.at_) with
  | some ⟨_, _, .func fd, _⟩ => fd
  | _ => PySem.W.fnOf d.name d.qual d.params d.body d.scope .none .none .none .none none .none .none
theorem fdOf_eq {K : PySem.W.Frag} {d : He.DefD} {fd : FuncData} (F : FunD K d.name d.qual d.params d.body d.scope (d.dvs K) (d.kws K) (He.fAd K d.at_) fd) : FunD K d.name d.qual d.params d.body d.scope (d.dvs K) (d.kws K) (He.fAd K d.at_) (fdOf K d) := by
  obtain ⟨oc, od, dV, kV, doc, pm, an, cdv, ct, osl, _, lk, h⟩ := F.ex
  have e : fdOf K d = fd := by
    unfold fdOf
    rw [lk]
  rw [e]
  exact F
structure Txt (w : World) (K : PySem.W.Frag) (mg : Str → Option Value) : Prop where
  g_HallError : mg "HallError" = some (.ref (He.ga K "HallError"))
  g_BadProgram : mg "BadProgram" = some (.ref (He.ga K "BadProgram"))
  g_BadNumber : mg "BadNumber" = some (.ref (He.ga K "BadNumber"))
  g_BadTree : mg "BadTree" = some (.ref (He.ga K "BadTree"))
  g_BadRoom : mg "BadRoom" = some (.ref (He.ga K "BadRoom"))
  g_BadFunction : mg "BadFunction" = some (.ref (He.ga K "BadFunction"))
  g_BadPlace : mg "BadPlace" = some (.ref (He.ga K "BadPlace"))
  g_between : mg "between" = some (.ref (He.ga K "between"))
  g_ARMS : mg "ARMS" = some (.ref (He.ga K "ARMS"))
  g_GIVEN : mg "GIVEN" = some (.ref (He.ga K "GIVEN"))
  g_CALLS : mg "CALLS" = some (.ref (He.ga K "CALLS"))
  g_given_of : mg "given_of" = some (.ref (He.ga K "given_of"))
  g_arms_of : mg "arms_of" = some (.ref (He.ga K "arms_of"))
  g_words_of : mg "words_of" = some (.ref (He.ga K "words_of"))
  g_add_word : mg "add_word" = some (.ref (He.ga K "add_word"))
  g_check_program : mg "check_program" = some (.ref (He.ga K "check_program"))
  g_check_function : mg "check_function" = some (.ref (He.ga K "check_function"))
  g_function_fits : mg "function_fits" = some (.ref (He.ga K "function_fits"))
  g_word_fits : mg "word_fits" = some (.ref (He.ga K "word_fits"))
  g_given_fits : mg "given_fits" = some (.ref (He.ga K "given_fits"))
  g_numbered : mg "numbered" = some (.ref (He.ga K "numbered"))
  g_check_tree : mg "check_tree" = some (.ref (He.ga K "check_tree"))
  g_parts_fit : mg "parts_fit" = some (.ref (He.ga K "parts_fit"))
  g_part_fits : mg "part_fits" = some (.ref (He.ga K "part_fits"))
  g_rises : mg "rises" = some (.ref (He.ga K "rises"))
  g_stands_fit : mg "stands_fit" = some (.ref (He.ga K "stands_fit"))
  g_has_end : mg "has_end" = some (.ref (He.ga K "has_end"))
  g_parts_below : mg "parts_below" = some (.ref (He.ga K "parts_below"))
  g_size_of : mg "size_of" = some (.ref (He.ga K "size_of"))
  g_begins : mg "begins" = some (.ref (He.ga K "begins"))
  g_firsts_of : mg "firsts_of" = some (.ref (He.ga K "firsts_of"))
  g_end_of : mg "end_of" = some (.ref (He.ga K "end_of"))
  g_way_of : mg "way_of" = some (.ref (He.ga K "way_of"))
  g_Hall : mg "Hall" = some (.ref (He.ga K "Hall"))
  g_check_room : mg "check_room" = some (.ref (He.ga K "check_room"))
  g_layouts : mg "layouts" = some (.ref (He.ga K "layouts"))
  g_Fault : mg "Fault" = some (.ref (He.ga K "Fault"))
  g_check_number : mg "check_number" = some (.ref (He.ga K "check_number"))
  g_Run : mg "Run" = some (.ref (He.ga K "Run"))
  g_number_in : mg "number_in" = some (.ref (He.ga K "number_in"))
  g_end_of_way : mg "end_of_way" = some (.ref (He.ga K "end_of_way"))
  g_reckoned : mg "reckoned" = some (.ref (He.ga K "reckoned"))
  g_Lost : mg "Lost" = some (.ref (He.ga K "Lost"))
  g_RoomRun : mg "RoomRun" = some (.ref (He.ga K "RoomRun"))
  g_run_in : mg "run_in" = some (.ref (He.ga K "run_in"))
  g_room_run : mg "room_run" = some (.ref (He.ga K "room_run"))
  g_check_places : mg "check_places" = some (.ref (He.ga K "check_places"))
  g_calls_at : mg "calls_at" = some (.ref (He.ga K "calls_at"))
  g_run : mg "run" = some (.ref (He.ga K "run"))
  g_traced : mg "traced" = some (.ref (He.ga K "traced"))
  g_plain_run : mg "plain_run" = some (.ref (He.ga K "plain_run"))
  g_law_mix : mg "_law_mix" = some (.ref (He.ga K "_law_mix"))
  g_law_next : mg "_law_next" = some (.ref (He.ga K "_law_next"))
  g_law_alike : mg "_law_alike" = some (.ref (He.ga K "_law_alike"))
  g_law_leaf : mg "_law_leaf" = some (.ref (He.ga K "_law_leaf"))
  g_law_call : mg "_law_call" = some (.ref (He.ga K "_law_call"))
  g_law_less : mg "_law_less" = some (.ref (He.ga K "_law_less"))
  g_law_body : mg "_law_body" = some (.ref (He.ga K "_law_body"))
  g_law_words : mg "_law_words" = some (.ref (He.ga K "_law_words"))
  g_law_program : mg "_law_program" = some (.ref (He.ga K "_law_program"))
  g_law_tree : mg "_law_tree" = some (.ref (He.ga K "_law_tree"))
  g_law_laid : mg "_law_laid" = some (.ref (He.ga K "_law_laid"))
  g_law_number : mg "_law_number" = some (.ref (He.ga K "_law_number"))
  g_law_renamed : mg "_law_renamed" = some (.ref (He.ga K "_law_renamed"))
  g_law_other : mg "_law_other" = some (.ref (He.ga K "_law_other"))
  g_law : mg "law" = some (.ref (He.ga K "law"))
  z_Exception : mg "Exception" = none
  z_ValueError : mg "ValueError" = none
  z_all : mg "all" = none
  z_bool : mg "bool" = none
  z_enumerate : mg "enumerate" = none
  z_int : mg "int" = none
  z_isinstance : mg "isinstance" = none
  z_len : mg "len" = none
  z_list : mg "list" = none
  z_max : mg "max" = none
  z_range : mg "range" = none
  z_set : mg "set" = none
  z_sorted : mg "sorted" = none
  z_str : mg "str" = none
  z_sum : mg "sum" = none
  z_super : mg "super" = none
  z_tuple : mg "tuple" = none
  z_zip : mg "zip" = none
  i_MOST_FUNCTIONS : ∃ t, mg "MOST_FUNCTIONS" = some (.int 8 t)
  i_MOST_CELLS : ∃ t, mg "MOST_CELLS" = some (.int 8 t)
  i_MOST_WORDS : ∃ t, mg "MOST_WORDS" = some (.int 40 t)
  i_MOST_AROUND : ∃ t, mg "MOST_AROUND" = some (.int 6 t)
  i_GREATEST_WRITTEN : ∃ t, mg "GREATEST_WRITTEN" = some (.int 99 t)
  i_NO_PART : ∃ t, mg "NO_PART" = some (.int (-1) t)
  i_MOST_ROOM : ∃ t, mg "MOST_ROOM" = some (.int 64 t)
  i_NUMBERS : ∃ t, mg "NUMBERS" = some (.int 1000 t)
  i_MOST_OTHERS : ∃ t, mg "MOST_OTHERS" = some (.int 12 t)
  i_MOST_CALLS : ∃ t, mg "MOST_CALLS" = some (.int 200 t)
  F_between : FnP K "between" "between" s_between (He.ga K "between") (fdOf K d_between)
  F_given_of : FnP K "given_of" "given_of" s_given_of (He.ga K "given_of") (fdOf K d_given_of)
  F_arms_of : FnP K "arms_of" "arms_of" s_arms_of (He.ga K "arms_of") (fdOf K d_arms_of)
  F_words_of : FnP K "words_of" "words_of" s_words_of (He.ga K "words_of") (fdOf K d_words_of)
  F_add_word : FnP K "add_word" "add_word" s_add_word (He.ga K "add_word") (fdOf K d_add_word)
  F_check_program : FnP K "check_program" "check_program" s_check_program (He.ga K "check_program") (fdOf K d_check_program)
  F_check_function : FnP K "check_function" "check_function" s_check_function (He.ga K "check_function") (fdOf K d_check_function)
  F_function_fits : FnP K "function_fits" "function_fits" s_function_fits (He.ga K "function_fits") (fdOf K d_function_fits)
  F_word_fits : FnP K "word_fits" "word_fits" s_word_fits (He.ga K "word_fits") (fdOf K d_word_fits)
  F_given_fits : FnP K "given_fits" "given_fits" s_given_fits (He.ga K "given_fits") (fdOf K d_given_fits)
  F_numbered : FnP K "numbered" "numbered" s_numbered (He.ga K "numbered") (fdOf K d_numbered)
  F_check_tree : FnP K "check_tree" "check_tree" s_check_tree (He.ga K "check_tree") (fdOf K d_check_tree)
  F_parts_fit : FnP K "parts_fit" "parts_fit" s_parts_fit (He.ga K "parts_fit") (fdOf K d_parts_fit)
  F_part_fits : FnP K "part_fits" "part_fits" s_part_fits (He.ga K "part_fits") (fdOf K d_part_fits)
  F_rises : FnP K "rises" "rises" s_rises (He.ga K "rises") (fdOf K d_rises)
  F_stands_fit : FnP K "stands_fit" "stands_fit" s_stands_fit (He.ga K "stands_fit") (fdOf K d_stands_fit)
  F_has_end : FnP K "has_end" "has_end" s_has_end (He.ga K "has_end") (fdOf K d_has_end)
  F_parts_below : FnP K "parts_below" "parts_below" s_parts_below (He.ga K "parts_below") (fdOf K d_parts_below)
  F_size_of : FnP K "size_of" "size_of" s_size_of (He.ga K "size_of") (fdOf K d_size_of)
  F_begins : FnP K "begins" "begins" s_begins (He.ga K "begins") (fdOf K d_begins)
  F_firsts_of : FnP K "firsts_of" "firsts_of" s_firsts_of (He.ga K "firsts_of") (fdOf K d_firsts_of)
  F_end_of : FnP K "end_of" "end_of" s_end_of (He.ga K "end_of") (fdOf K d_end_of)
  F_way_of : FnP K "way_of" "way_of" s_way_of (He.ga K "way_of") (fdOf K d_way_of)
  F_check_room : FnP K "check_room" "check_room" s_check_room (He.ga K "check_room") (fdOf K d_check_room)
  F_layouts : FnP K "layouts" "layouts" s_layouts (He.ga K "layouts") (fdOf K d_layouts)
  F_check_number : FnP K "check_number" "check_number" s_check_number (He.ga K "check_number") (fdOf K d_check_number)
  F_number_in : FnP K "number_in" "number_in" s_number_in (He.ga K "number_in") (fdOf K d_number_in)
  F_end_of_way : FnP K "end_of_way" "end_of_way" s_end_of_way (He.ga K "end_of_way") (fdOf K d_end_of_way)
  F_reckoned : FnP K "reckoned" "reckoned" s_reckoned (He.ga K "reckoned") (fdOf K d_reckoned)
  F_run_in : FnP K "run_in" "run_in" s_run_in (He.ga K "run_in") (fdOf K d_run_in)
  F_room_run : FnP K "room_run" "room_run" s_room_run (He.ga K "room_run") (fdOf K d_room_run)
  F_check_places : FnP K "check_places" "check_places" s_check_places (He.ga K "check_places") (fdOf K d_check_places)
  F_run : FnP K "run" "run" s_run (He.ga K "run") (fdOf K d_run)
  F_traced : FnP K "traced" "traced" s_traced (He.ga K "traced") (fdOf K d_traced)
  F_plain_run : FnP K "plain_run" "plain_run" s_plain_run (He.ga K "plain_run") (fdOf K d_plain_run)
  F_law_mix : FnP K "_law_mix" "_law_mix" s_law_mix (He.ga K "_law_mix") (fdOf K d_law_mix)
  F_law_next : FnP K "_law_next" "_law_next" s_law_next (He.ga K "_law_next") (fdOf K d_law_next)
  F_law_alike : FnP K "_law_alike" "_law_alike" s_law_alike (He.ga K "_law_alike") (fdOf K d_law_alike)
  F_law_leaf : FnP K "_law_leaf" "_law_leaf" s_law_leaf (He.ga K "_law_leaf") (fdOf K d_law_leaf)
  F_law_call : FnP K "_law_call" "_law_call" s_law_call (He.ga K "_law_call") (fdOf K d_law_call)
  F_law_less : FnP K "_law_less" "_law_less" s_law_less (He.ga K "_law_less") (fdOf K d_law_less)
  F_law_body : FnP K "_law_body" "_law_body" s_law_body (He.ga K "_law_body") (fdOf K d_law_body)
  F_law_words : FnP K "_law_words" "_law_words" s_law_words (He.ga K "_law_words") (fdOf K d_law_words)
  F_law_program : FnP K "_law_program" "_law_program" s_law_program (He.ga K "_law_program") (fdOf K d_law_program)
  F_law_tree : FnP K "_law_tree" "_law_tree" s_law_tree (He.ga K "_law_tree") (fdOf K d_law_tree)
  F_law_laid : FnP K "_law_laid" "_law_laid" s_law_laid (He.ga K "_law_laid") (fdOf K d_law_laid)
  F_law_number : FnP K "_law_number" "_law_number" s_law_number (He.ga K "_law_number") (fdOf K d_law_number)
  F_law_renamed : FnP K "_law_renamed" "_law_renamed" s_law_renamed (He.ga K "_law_renamed") (fdOf K d_law_renamed)
  F_law_other : FnP K "_law_other" "_law_other" s_law_other (He.ga K "_law_other") (fdOf K d_law_other)
  F_law : FnP K "law" "law" s_law (He.ga K "law") (fdOf K d_law)
  c_Hall : Cls K (He.ga K "Hall")
  k_Hall : Mk K (He.ga K "Hall") (He.ma K (He.ga K "Hall") "__init__")
  m_Hall_look : Meth K (He.ga K "Hall") "look" (He.ma K (He.ga K "Hall") "look")
  m_Hall_there : Meth K (He.ga K "Hall") "there" (He.ma K (He.ga K "Hall") "there")
  m_Hall_cells : Meth K (He.ga K "Hall") "cells" (He.ma K (He.ga K "Hall") "cells")
  m_Hall_brought : Meth K (He.ga K "Hall") "brought" (He.ma K (He.ga K "Hall") "brought")
  m_Hall_has_part : Meth K (He.ga K "Hall") "has_part" (He.ma K (He.ga K "Hall") "has_part")
  m_Hall_bring : Meth K (He.ga K "Hall") "bring" (He.ma K (He.ga K "Hall") "bring")
  a_Hall_layouts : NoAttr K (He.ga K "Hall") "layouts"
  a_Hall_lying : NoAttr K (He.ga K "Hall") "lying"
  a_Hall_moved : NoAttr K (He.ga K "Hall") "moved"
  a_Hall_ways : NoAttr K (He.ga K "Hall") "ways"
  F_Hall_init : FnP K "__init__" "Hall.__init__" s_Hall_init (He.ma K (He.ga K "Hall") "__init__") (fdOf K d_Hall_init)
  F_Hall_look : FnP K "look" "Hall.look" s_Hall_look (He.ma K (He.ga K "Hall") "look") (fdOf K d_Hall_look)
  F_Hall_there : FnP K "there" "Hall.there" s_Hall_there (He.ma K (He.ga K "Hall") "there") (fdOf K d_Hall_there)
  F_Hall_cells : FnP K "cells" "Hall.cells" s_Hall_cells (He.ma K (He.ga K "Hall") "cells") (fdOf K d_Hall_cells)
  F_Hall_brought : FnP K "brought" "Hall.brought" s_Hall_brought (He.ma K (He.ga K "Hall") "brought") (fdOf K d_Hall_brought)
  F_Hall_has_part : FnP K "has_part" "Hall.has_part" s_Hall_has_part (He.ma K (He.ga K "Hall") "has_part") (fdOf K d_Hall_has_part)
  F_Hall_bring : FnP K "bring" "Hall.bring" s_Hall_bring (He.ma K (He.ga K "Hall") "bring") (fdOf K d_Hall_bring)
  c_Run : Cls K (He.ga K "Run")
  k_Run : Mk K (He.ga K "Run") (He.ma K (He.ga K "Run") "__init__")
  m_Run_begin : Meth K (He.ga K "Run") "begin" (He.ma K (He.ga K "Run") "begin")
  m_Run_worth : Meth K (He.ga K "Run") "worth" (He.ma K (He.ga K "Run") "worth")
  m_Run_say : Meth K (He.ga K "Run") "say" (He.ma K (He.ga K "Run") "say")
  m_Run_call : Meth K (He.ga K "Run") "call" (He.ma K (He.ga K "Run") "call")
  m_Run_enter : Meth K (He.ga K "Run") "enter" (He.ma K (He.ga K "Run") "enter")
  m_Run_come_back : Meth K (He.ga K "Run") "come_back" (He.ma K (He.ga K "Run") "come_back")
  a_Run_bodies : NoAttr K (He.ga K "Run") "bodies"
  a_Run_calls : NoAttr K (He.ga K "Run") "calls"
  a_Run_others : NoAttr K (He.ga K "Run") "others"
  a_Run_row : NoAttr K (He.ga K "Run") "row"
  a_Run_said : NoAttr K (He.ga K "Run") "said"
  a_Run_told : NoAttr K (He.ga K "Run") "told"
  F_Run_init : FnP K "__init__" "Run.__init__" s_Run_init (He.ma K (He.ga K "Run") "__init__") (fdOf K d_Run_init)
  F_Run_begin : FnP K "begin" "Run.begin" s_Run_begin (He.ma K (He.ga K "Run") "begin") (fdOf K d_Run_begin)
  F_Run_worth : FnP K "worth" "Run.worth" s_Run_worth (He.ma K (He.ga K "Run") "worth") (fdOf K d_Run_worth)
  F_Run_say : FnP K "say" "Run.say" s_Run_say (He.ma K (He.ga K "Run") "say") (fdOf K d_Run_say)
  F_Run_call : FnP K "call" "Run.call" s_Run_call (He.ma K (He.ga K "Run") "call") (fdOf K d_Run_call)
  F_Run_enter : FnP K "enter" "Run.enter" s_Run_enter (He.ma K (He.ga K "Run") "enter") (fdOf K d_Run_enter)
  F_Run_come_back : FnP K "come_back" "Run.come_back" s_Run_come_back (He.ma K (He.ga K "Run") "come_back") (fdOf K d_Run_come_back)
  c_RoomRun : Cls K (He.ga K "RoomRun")
  k_RoomRun : Mk K (He.ga K "RoomRun") (He.ma K (He.ga K "RoomRun") "__init__")
  m_RoomRun_begin : Meth K (He.ga K "RoomRun") "begin" (He.ma K (He.ga K "RoomRun") "begin")
  m_RoomRun_enter : Meth K (He.ga K "RoomRun") "enter" (He.ma K (He.ga K "RoomRun") "enter")
  m_RoomRun_come_back : Meth K (He.ga K "RoomRun") "come_back" (He.ma K (He.ga K "RoomRun") "come_back")
  m_RoomRun_go_on : Meth K (He.ga K "RoomRun") "go_on" (He.ma K (He.ga K "RoomRun") "go_on")
  m_RoomRun_worth : Meth K (He.ga K "RoomRun") "worth" (He.ma K (He.ga K "RoomRun") "worth")
  m_RoomRun_say : Meth K (He.ga K "RoomRun") "say" (He.ma K (He.ga K "RoomRun") "say")
  m_RoomRun_call : Meth K (He.ga K "RoomRun") "call" (He.ma K (He.ga K "RoomRun") "call")
  a_RoomRun_ahead : NoAttr K (He.ga K "RoomRun") "ahead"
  a_RoomRun_back : NoAttr K (He.ga K "RoomRun") "back"
  a_RoomRun_bodies : NoAttr K (He.ga K "RoomRun") "bodies"
  a_RoomRun_calls : NoAttr K (He.ga K "RoomRun") "calls"
  a_RoomRun_hall : NoAttr K (He.ga K "RoomRun") "hall"
  a_RoomRun_looks : NoAttr K (He.ga K "RoomRun") "looks"
  a_RoomRun_others : NoAttr K (He.ga K "RoomRun") "others"
  a_RoomRun_row : NoAttr K (He.ga K "RoomRun") "row"
  a_RoomRun_said : NoAttr K (He.ga K "RoomRun") "said"
  a_RoomRun_told : NoAttr K (He.ga K "RoomRun") "told"
  F_RoomRun_init : FnP K "__init__" "RoomRun.__init__" s_RoomRun_init (He.ma K (He.ga K "RoomRun") "__init__") (fdOf K d_RoomRun_init)
  e_RoomRun_begin : Ov.fnC K d_RoomRun_begin.at_ = Ov.valC d_RoomRun_begin
  e_RoomRun_enter : Ov.fnC K d_RoomRun_enter.at_ = Ov.valC d_RoomRun_enter
  e_RoomRun_come_back : Ov.fnC K d_RoomRun_come_back.at_ = Ov.valC d_RoomRun_come_back
  F_RoomRun_go_on : FnP K "go_on" "RoomRun.go_on" s_RoomRun_go_on (He.ma K (He.ga K "RoomRun") "go_on") (fdOf K d_RoomRun_go_on)
  x_HallError : PySem.W.excIn K (He.ga K "HallError") He.veBase "ValueError.__new__" = true ∧ PySem.W.keepIn K (.ref (He.ga K "HallError")) = true ∧ PySem.W.subIn K (.ref (He.ga K "HallError")) (.type "BaseException") = some true ∧ PySem.W.typeIn K (.ref (He.ga K "HallError")) = some (.type "type")
  x_BadNumber : PySem.W.excIn K (He.ga K "BadNumber") He.veBase "ValueError.__new__" = true ∧ PySem.W.keepIn K (.ref (He.ga K "BadNumber")) = true ∧ PySem.W.subIn K (.ref (He.ga K "BadNumber")) (.type "BaseException") = some true ∧ PySem.W.typeIn K (.ref (He.ga K "BadNumber")) = some (.type "type")
  x_BadTree : PySem.W.excIn K (He.ga K "BadTree") He.veBase "ValueError.__new__" = true ∧ PySem.W.keepIn K (.ref (He.ga K "BadTree")) = true ∧ PySem.W.subIn K (.ref (He.ga K "BadTree")) (.type "BaseException") = some true ∧ PySem.W.typeIn K (.ref (He.ga K "BadTree")) = some (.type "type")
  x_BadRoom : PySem.W.excIn K (He.ga K "BadRoom") He.veBase "ValueError.__new__" = true ∧ PySem.W.keepIn K (.ref (He.ga K "BadRoom")) = true ∧ PySem.W.subIn K (.ref (He.ga K "BadRoom")) (.type "BaseException") = some true ∧ PySem.W.typeIn K (.ref (He.ga K "BadRoom")) = some (.type "type")
  x_BadFunction : PySem.W.excIn K (He.ga K "BadFunction") He.veBase "ValueError.__new__" = true ∧ PySem.W.keepIn K (.ref (He.ga K "BadFunction")) = true ∧ PySem.W.subIn K (.ref (He.ga K "BadFunction")) (.type "BaseException") = some true ∧ PySem.W.typeIn K (.ref (He.ga K "BadFunction")) = some (.type "type")
  x_BadPlace : PySem.W.excIn K (He.ga K "BadPlace") He.veBase "ValueError.__new__" = true ∧ PySem.W.keepIn K (.ref (He.ga K "BadPlace")) = true ∧ PySem.W.subIn K (.ref (He.ga K "BadPlace")) (.type "BaseException") = some true ∧ PySem.W.typeIn K (.ref (He.ga K "BadPlace")) = some (.type "type")
  e_HallError_HallError : PySem.W.exmOne K (.ref (He.ga K "HallError")) (.ref (He.ga K "HallError")) = some true
  e_BadNumber_BadNumber : PySem.W.exmOne K (.ref (He.ga K "BadNumber")) (.ref (He.ga K "BadNumber")) = some true
  e_BadNumber_HallError : PySem.W.exmOne K (.ref (He.ga K "BadNumber")) (.ref (He.ga K "HallError")) = some true
  e_BadTree_BadTree : PySem.W.exmOne K (.ref (He.ga K "BadTree")) (.ref (He.ga K "BadTree")) = some true
  e_BadTree_HallError : PySem.W.exmOne K (.ref (He.ga K "BadTree")) (.ref (He.ga K "HallError")) = some true
  e_BadRoom_BadRoom : PySem.W.exmOne K (.ref (He.ga K "BadRoom")) (.ref (He.ga K "BadRoom")) = some true
  e_BadRoom_HallError : PySem.W.exmOne K (.ref (He.ga K "BadRoom")) (.ref (He.ga K "HallError")) = some true
  e_BadFunction_BadFunction : PySem.W.exmOne K (.ref (He.ga K "BadFunction")) (.ref (He.ga K "BadFunction")) = some true
  e_BadFunction_HallError : PySem.W.exmOne K (.ref (He.ga K "BadFunction")) (.ref (He.ga K "HallError")) = some true
  e_BadPlace_BadPlace : PySem.W.exmOne K (.ref (He.ga K "BadPlace")) (.ref (He.ga K "BadPlace")) = some true
  e_BadPlace_HallError : PySem.W.exmOne K (.ref (He.ga K "BadPlace")) (.ref (He.ga K "HallError")) = some true
  kd_ARMS : ∃ es n, KDict K w (He.ga K "ARMS") es n
  v_ARMS : He.valsB K (He.ga K "ARMS") kv_ARMS = true
  m_ARMS : (miss_ARMS.all fun x => He.eqO (PySem.W.nsIn K (He.ga K "ARMS") x) (some none)) = true
  kd_GIVEN : ∃ es n, KDict K w (He.ga K "GIVEN") es n
  v_GIVEN : He.valsB K (He.ga K "GIVEN") kv_GIVEN = true
  m_GIVEN : (miss_GIVEN.all fun x => He.eqO (PySem.W.nsIn K (He.ga K "GIVEN") x) (some none)) = true
  sup_RoomRun_begin : Ov.supB K PySem.Challenge.pw_overlayhall_k07_whole_other_trees_say_th.main.file (He.ga K "RoomRun") (He.ma K (He.ga K "RoomRun") "begin") "RoomRun.begin" = true
  spm_RoomRun_begin : Ov.supMB K (He.ga K "RoomRun") (He.ga K "RoomRun") "begin" (He.ma K (He.ga K "Run") "begin") = true
  sup_RoomRun_enter : Ov.supB K PySem.Challenge.pw_overlayhall_k07_whole_other_trees_say_th.main.file (He.ga K "RoomRun") (He.ma K (He.ga K "RoomRun") "enter") "RoomRun.enter" = true
  spm_RoomRun_enter : Ov.supMB K (He.ga K "RoomRun") (He.ga K "RoomRun") "enter" (He.ma K (He.ga K "Run") "enter") = true
  sup_RoomRun_come_back : Ov.supB K PySem.Challenge.pw_overlayhall_k07_whole_other_trees_say_th.main.file (He.ga K "RoomRun") (He.ma K (He.ga K "RoomRun") "come_back") "RoomRun.come_back" = true
  spm_RoomRun_come_back : Ov.supMB K (He.ga K "RoomRun") (He.ga K "RoomRun") "come_back" (He.ma K (He.ga K "Run") "come_back") = true
  inh_RoomRun_worth : (He.ma K (He.ga K "RoomRun") "worth") = (He.ma K (He.ga K "Run") "worth")
  inh_RoomRun_say : (He.ma K (He.ga K "RoomRun") "say") = (He.ma K (He.ga K "Run") "say")
  inh_RoomRun_call : (He.ma K (He.ga K "RoomRun") "call") = (He.ma K (He.ga K "Run") "call")
  unb_RoomRun_init : Ov.unbB K (He.ga K "Run") "__init__" (He.ma K (He.ga K "Run") "__init__") = true
  flt : PySem.FltX.FltTxt K mg (He.ga K "Fault") (He.ma K (He.ga K "Fault") "__init__")
theorem Txt.of {w : World} {K : PySem.W.Frag} {h : Heap} {mg : Str → Option Value} (X : K.In h) (G : h.Ns mainGlobals mg) (c : He.SaysX fa fn ts tf ex w h K) (z : sf.map (fun d => Ov.fnC K d.at_) = sf.map Ov.valC) : Txt w K mg := by
  have e := c.more
  unfold ex at e
  simp only [Bool.and_eq_true] at e
  exact ⟨He.glo_ok X G (c.t.d.fact 0),
    He.glo_ok X G (c.t.d.fact 1),
    He.glo_ok X G (c.t.d.fact 2),
    He.glo_ok X G (c.t.d.fact 3),
    He.glo_ok X G (c.t.d.fact 4),
    He.glo_ok X G (c.t.d.fact 5),
    He.glo_ok X G (c.t.d.fact 6),
    He.glo_ok X G (c.t.d.fact 7),
    He.glo_ok X G (c.t.d.fact 8),
    He.glo_ok X G (c.t.d.fact 9),
    He.glo_ok X G (c.t.d.fact 10),
    He.glo_ok X G (c.t.d.fact 11),
    He.glo_ok X G (c.t.d.fact 12),
    He.glo_ok X G (c.t.d.fact 13),
    He.glo_ok X G (c.t.d.fact 14),
    He.glo_ok X G (c.t.d.fact 15),
    He.glo_ok X G (c.t.d.fact 16),
    He.glo_ok X G (c.t.d.fact 17),
    He.glo_ok X G (c.t.d.fact 18),
    He.glo_ok X G (c.t.d.fact 19),
    He.glo_ok X G (c.t.d.fact 20),
    He.glo_ok X G (c.t.d.fact 21),
    He.glo_ok X G (c.t.d.fact 22),
    He.glo_ok X G (c.t.d.fact 23),
    He.glo_ok X G (c.t.d.fact 24),
    He.glo_ok X G (c.t.d.fact 25),
    He.glo_ok X G (c.t.d.fact 26),
    He.glo_ok X G (c.t.d.fact 27),
    He.glo_ok X G (c.t.d.fact 28),
    He.glo_ok X G (c.t.d.fact 29),
    He.glo_ok X G (c.t.d.fact 30),
    He.glo_ok X G (c.t.d.fact 31),
    He.glo_ok X G (c.t.d.fact 32),
    He.glo_ok X G (c.t.d.fact 33),
    He.glo_ok X G (c.t.d.fact 34),
    He.glo_ok X G (c.t.d.fact 35),
    He.glo_ok X G (c.t.d.fact 36),
    He.glo_ok X G (c.t.d.fact 37),
    He.glo_ok X G (c.t.d.fact 38),
    He.glo_ok X G (c.t.d.fact 39),
    He.glo_ok X G (c.t.d.fact 40),
    He.glo_ok X G (c.t.d.fact 41),
    He.glo_ok X G (c.t.d.fact 42),
    He.glo_ok X G (c.t.d.fact 43),
    He.glo_ok X G (c.t.d.fact 44),
    He.glo_ok X G (c.t.d.fact 45),
    He.glo_ok X G (c.t.d.fact 46),
    He.glo_ok X G (c.t.d.fact 47),
    He.glo_ok X G (c.t.d.fact 48),
    He.glo_ok X G (c.t.d.fact 49),
    He.glo_ok X G (c.t.d.fact 50),
    He.glo_ok X G (c.t.d.fact 51),
    He.glo_ok X G (c.t.d.fact 52),
    He.glo_ok X G (c.t.d.fact 53),
    He.glo_ok X G (c.t.d.fact 54),
    He.glo_ok X G (c.t.d.fact 55),
    He.glo_ok X G (c.t.d.fact 56),
    He.glo_ok X G (c.t.d.fact 57),
    He.glo_ok X G (c.t.d.fact 58),
    He.glo_ok X G (c.t.d.fact 59),
    He.glo_ok X G (c.t.d.fact 60),
    He.glo_ok X G (c.t.d.fact 61),
    He.glo_ok X G (c.t.d.fact 62),
    He.glo_ok X G (c.t.d.fact 63),
    He.glo_ok X G (c.t.d.fact 64),
    He.glo_ok X G (c.t.d.fact 65),
    He.free_ok X G (c.t.d.fact 66),
    He.free_ok X G (c.t.d.fact 67),
    He.free_ok X G (c.t.d.fact 68),
    He.free_ok X G (c.t.d.fact 69),
    He.free_ok X G (c.t.d.fact 70),
    He.free_ok X G (c.t.d.fact 71),
    He.free_ok X G (c.t.d.fact 72),
    He.free_ok X G (c.t.d.fact 73),
    He.free_ok X G (c.t.d.fact 74),
    He.free_ok X G (c.t.d.fact 75),
    He.free_ok X G (c.t.d.fact 76),
    He.free_ok X G (c.t.d.fact 77),
    He.free_ok X G (c.t.d.fact 78),
    He.free_ok X G (c.t.d.fact 79),
    He.free_ok X G (c.t.d.fact 80),
    He.free_ok X G (c.t.d.fact 81),
    He.free_ok X G (c.t.d.fact 82),
    He.free_ok X G (c.t.d.fact 83),
    He.int_ok X G (c.t.d.fact 84),
    He.int_ok X G (c.t.d.fact 85),
    He.int_ok X G (c.t.d.fact 86),
    He.int_ok X G (c.t.d.fact 87),
    He.int_ok X G (c.t.d.fact 88),
    He.int_ok X G (c.t.d.fact 89),
    He.int_ok X G (c.t.d.fact 90),
    He.int_ok X G (c.t.d.fact 91),
    He.int_ok X G (c.t.d.fact 92),
    He.int_ok X G (c.t.d.fact 93),
    (c.t.d.def_ 0 (d := d_between)).elim fun _ F => fdOf_eq F,
    (c.t.d.def_ 1 (d := d_given_of)).elim fun _ F => fdOf_eq F,
    (c.t.d.def_ 2 (d := d_arms_of)).elim fun _ F => fdOf_eq F,
    (c.t.d.def_ 3 (d := d_words_of)).elim fun _ F => fdOf_eq F,
    (c.t.d.def_ 4 (d := d_add_word)).elim fun _ F => fdOf_eq F,
    (c.t.d.def_ 5 (d := d_check_program)).elim fun _ F => fdOf_eq F,
    (c.t.d.def_ 6 (d := d_check_function)).elim fun _ F => fdOf_eq F,
    (c.t.d.def_ 7 (d := d_function_fits)).elim fun _ F => fdOf_eq F,
    (c.t.d.def_ 8 (d := d_word_fits)).elim fun _ F => fdOf_eq F,
    (c.t.d.def_ 9 (d := d_given_fits)).elim fun _ F => fdOf_eq F,
    (c.t.d.def_ 10 (d := d_numbered)).elim fun _ F => fdOf_eq F,
    (c.t.d.def_ 11 (d := d_check_tree)).elim fun _ F => fdOf_eq F,
    (c.t.d.def_ 12 (d := d_parts_fit)).elim fun _ F => fdOf_eq F,
    (c.t.d.def_ 13 (d := d_part_fits)).elim fun _ F => fdOf_eq F,
    (c.t.d.def_ 14 (d := d_rises)).elim fun _ F => fdOf_eq F,
    (c.t.d.def_ 15 (d := d_stands_fit)).elim fun _ F => fdOf_eq F,
    (c.t.d.def_ 16 (d := d_has_end)).elim fun _ F => fdOf_eq F,
    (c.t.d.def_ 17 (d := d_parts_below)).elim fun _ F => fdOf_eq F,
    (c.t.d.def_ 18 (d := d_size_of)).elim fun _ F => fdOf_eq F,
    (c.t.d.def_ 19 (d := d_begins)).elim fun _ F => fdOf_eq F,
    (c.t.d.def_ 20 (d := d_firsts_of)).elim fun _ F => fdOf_eq F,
    (c.t.d.def_ 21 (d := d_end_of)).elim fun _ F => fdOf_eq F,
    (c.t.d.def_ 22 (d := d_way_of)).elim fun _ F => fdOf_eq F,
    (c.t.d.def_ 23 (d := d_check_room)).elim fun _ F => fdOf_eq F,
    (c.t.d.def_ 24 (d := d_layouts)).elim fun _ F => fdOf_eq F,
    (c.t.d.def_ 25 (d := d_check_number)).elim fun _ F => fdOf_eq F,
    (c.t.d.def_ 26 (d := d_number_in)).elim fun _ F => fdOf_eq F,
    (c.t.d.def_ 27 (d := d_end_of_way)).elim fun _ F => fdOf_eq F,
    (c.t.d.def_ 28 (d := d_reckoned)).elim fun _ F => fdOf_eq F,
    (c.t.d.def_ 29 (d := d_run_in)).elim fun _ F => fdOf_eq F,
    (c.t.d.def_ 30 (d := d_room_run)).elim fun _ F => fdOf_eq F,
    (c.t.d.def_ 31 (d := d_check_places)).elim fun _ F => fdOf_eq F,
    (c.t.d.def_ 32 (d := d_run)).elim fun _ F => fdOf_eq F,
    (c.t.d.def_ 33 (d := d_traced)).elim fun _ F => fdOf_eq F,
    (c.t.d.def_ 34 (d := d_plain_run)).elim fun _ F => fdOf_eq F,
    (c.t.d.def_ 35 (d := d_law_mix)).elim fun _ F => fdOf_eq F,
    (c.t.d.def_ 36 (d := d_law_next)).elim fun _ F => fdOf_eq F,
    (c.t.d.def_ 37 (d := d_law_alike)).elim fun _ F => fdOf_eq F,
    (c.t.d.def_ 38 (d := d_law_leaf)).elim fun _ F => fdOf_eq F,
    (c.t.d.def_ 39 (d := d_law_call)).elim fun _ F => fdOf_eq F,
    (c.t.d.def_ 40 (d := d_law_less)).elim fun _ F => fdOf_eq F,
    (c.t.d.def_ 41 (d := d_law_body)).elim fun _ F => fdOf_eq F,
    (c.t.d.def_ 42 (d := d_law_words)).elim fun _ F => fdOf_eq F,
    (c.t.d.def_ 43 (d := d_law_program)).elim fun _ F => fdOf_eq F,
    (c.t.d.def_ 44 (d := d_law_tree)).elim fun _ F => fdOf_eq F,
    (c.t.d.def_ 45 (d := d_law_laid)).elim fun _ F => fdOf_eq F,
    (c.t.d.def_ 46 (d := d_law_number)).elim fun _ F => fdOf_eq F,
    (c.t.d.def_ 47 (d := d_law_renamed)).elim fun _ F => fdOf_eq F,
    (c.t.d.def_ 48 (d := d_law_other)).elim fun _ F => fdOf_eq F,
    (c.t.d.def_ 49 (d := d_law)).elim fun _ F => fdOf_eq F,
    He.cls_ok (c.t.d.fact 94),
    He.mkr_ok (c.t.d.fact 95),
    He.meth_ok (c.t.d.fact 96),
    He.meth_ok (c.t.d.fact 97),
    He.meth_ok (c.t.d.fact 98),
    He.meth_ok (c.t.d.fact 99),
    He.meth_ok (c.t.d.fact 100),
    He.meth_ok (c.t.d.fact 101),
    He.noat_ok (c.t.d.fact 102),
    He.noat_ok (c.t.d.fact 103),
    He.noat_ok (c.t.d.fact 104),
    He.noat_ok (c.t.d.fact 105),
    (c.t.d.def_ 50 (d := d_Hall_init)).elim fun _ F => fdOf_eq F,
    (c.t.d.def_ 51 (d := d_Hall_look)).elim fun _ F => fdOf_eq F,
    (c.t.d.def_ 52 (d := d_Hall_there)).elim fun _ F => fdOf_eq F,
    (c.t.d.def_ 53 (d := d_Hall_cells)).elim fun _ F => fdOf_eq F,
    (c.t.d.def_ 54 (d := d_Hall_brought)).elim fun _ F => fdOf_eq F,
    (c.t.d.def_ 55 (d := d_Hall_has_part)).elim fun _ F => fdOf_eq F,
    (c.t.d.def_ 56 (d := d_Hall_bring)).elim fun _ F => fdOf_eq F,
    He.cls_ok (c.t.d.fact 106),
    He.mkr_ok (c.t.d.fact 107),
    He.meth_ok (c.t.d.fact 108),
    He.meth_ok (c.t.d.fact 109),
    He.meth_ok (c.t.d.fact 110),
    He.meth_ok (c.t.d.fact 111),
    He.meth_ok (c.t.d.fact 112),
    He.meth_ok (c.t.d.fact 113),
    He.noat_ok (c.t.d.fact 114),
    He.noat_ok (c.t.d.fact 115),
    He.noat_ok (c.t.d.fact 116),
    He.noat_ok (c.t.d.fact 117),
    He.noat_ok (c.t.d.fact 118),
    He.noat_ok (c.t.d.fact 119),
    (c.t.d.def_ 58 (d := d_Run_init)).elim fun _ F => fdOf_eq F,
    (c.t.d.def_ 59 (d := d_Run_begin)).elim fun _ F => fdOf_eq F,
    (c.t.d.def_ 60 (d := d_Run_worth)).elim fun _ F => fdOf_eq F,
    (c.t.d.def_ 61 (d := d_Run_say)).elim fun _ F => fdOf_eq F,
    (c.t.d.def_ 62 (d := d_Run_call)).elim fun _ F => fdOf_eq F,
    (c.t.d.def_ 63 (d := d_Run_enter)).elim fun _ F => fdOf_eq F,
    (c.t.d.def_ 64 (d := d_Run_come_back)).elim fun _ F => fdOf_eq F,
    He.cls_ok (c.t.d.fact 120),
    He.mkr_ok (c.t.d.fact 121),
    He.meth_ok (c.t.d.fact 122),
    He.meth_ok (c.t.d.fact 123),
    He.meth_ok (c.t.d.fact 124),
    He.meth_ok (c.t.d.fact 125),
    He.meth_ok (c.t.d.fact 126),
    He.meth_ok (c.t.d.fact 127),
    He.meth_ok (c.t.d.fact 128),
    He.noat_ok (c.t.d.fact 129),
    He.noat_ok (c.t.d.fact 130),
    He.noat_ok (c.t.d.fact 131),
    He.noat_ok (c.t.d.fact 132),
    He.noat_ok (c.t.d.fact 133),
    He.noat_ok (c.t.d.fact 134),
    He.noat_ok (c.t.d.fact 135),
    He.noat_ok (c.t.d.fact 136),
    He.noat_ok (c.t.d.fact 137),
    He.noat_ok (c.t.d.fact 138),
    (c.t.d.def_ 65 (d := d_RoomRun_init)).elim fun _ F => fdOf_eq F,
    Ov.fnC_at z 0,
    Ov.fnC_at z 1,
    Ov.fnC_at z 2,
    (c.t.d.def_ 66 (d := d_RoomRun_go_on)).elim fun _ F => fdOf_eq F,
    He.exc_ok (c.t.d.fact 139),
    He.exc_ok (c.t.d.fact 140),
    He.exc_ok (c.t.d.fact 141),
    He.exc_ok (c.t.d.fact 142),
    He.exc_ok (c.t.d.fact 143),
    He.exc_ok (c.t.d.fact 144),
    He.exm_ok (c.t.d.fact 145),
    He.exm_ok (c.t.d.fact 146),
    He.exm_ok (c.t.d.fact 147),
    He.exm_ok (c.t.d.fact 148),
    He.exm_ok (c.t.d.fact 149),
    He.exm_ok (c.t.d.fact 150),
    He.exm_ok (c.t.d.fact 151),
    He.exm_ok (c.t.d.fact 152),
    He.exm_ok (c.t.d.fact 153),
    He.exm_ok (c.t.d.fact 154),
    He.exm_ok (c.t.d.fact 155),
    c.t.tab 0,
    e.1.1.1.1.1.1.1.1.1.1.1.1.1,
    rfl,
    c.t.tab 1,
    e.1.1.1.1.1.1.1.1.1.1.1.1.2,
    e.1.1.1.1.1.1.1.1.1.1.1.2,
    e.1.1.1.1.1.1.1.1.1.1.2,
    e.1.1.1.1.1.1.1.1.1.2,
    e.1.1.1.1.1.1.1.1.2,
    e.1.1.1.1.1.1.1.2,
    e.1.1.1.1.1.1.2,
    e.1.1.1.1.1.2,
    of_decide_eq_true e.1.1.1.1.2,
    of_decide_eq_true e.1.1.1.2,
    of_decide_eq_true e.1.1.2,
    e.1.2,
    Ov.flt_ok (He.glo_ok X G (c.t.d.fact 36)) (e.2) (by
      obtain ⟨fd, F⟩ := c.t.d.def_ 57 (d := d_Fault_init)
      obtain ⟨oc, od, dV, kV, doc, pm, an, cdv, ct, osl, rfl, lk, cd, hd, hk⟩ := F.ex
      obtain ⟨z1, z2⟩ := Ov.fnNone_ok lk (Ov.fltB_none (e.2))
      change dV = .none at z1
      change kV = .none at z2
      subst z1 z2
      exact ⟨oc, od, doc, pm, an, cdv, ct, osl, _, _, _, _, _, _, lk, cd⟩)⟩
theorem Txt.kp_between {w : World} {K : PySem.W.Frag} {mg : Str → Option Value} (T : Txt w K mg) : PySem.W.keepIn K (.ref (He.ga K "between")) = true := T.F_between.kp
theorem Txt.b_between {w : World} {K : PySem.W.Frag} {mg : Str → Option Value} (T : Txt w K mg) : Binds K (fdOf K d_between) ["value", "low", "high"] [] := T.F_between.bindsN fun _ _ _ _ _ _ us hl => match us, hl with | [_, _, _], _ => rfl
theorem Txt.kp_given_of {w : World} {K : PySem.W.Frag} {mg : Str → Option Value} (T : Txt w K mg) : PySem.W.keepIn K (.ref (He.ga K "given_of")) = true := T.F_given_of.kp
theorem Txt.b_given_of {w : World} {K : PySem.W.Frag} {mg : Str → Option Value} (T : Txt w K mg) : Binds K (fdOf K d_given_of) ["word"] [] := T.F_given_of.bindsN fun _ _ _ _ _ _ us hl => match us, hl with | [_], _ => rfl
theorem Txt.kp_arms_of {w : World} {K : PySem.W.Frag} {mg : Str → Option Value} (T : Txt w K mg) : PySem.W.keepIn K (.ref (He.ga K "arms_of")) = true := T.F_arms_of.kp
theorem Txt.b_arms_of {w : World} {K : PySem.W.Frag} {mg : Str → Option Value} (T : Txt w K mg) : Binds K (fdOf K d_arms_of) ["word"] [] := T.F_arms_of.bindsN fun _ _ _ _ _ _ us hl => match us, hl with | [_], _ => rfl
theorem Txt.kp_words_of {w : World} {K : PySem.W.Frag} {mg : Str → Option Value} (T : Txt w K mg) : PySem.W.keepIn K (.ref (He.ga K "words_of")) = true := T.F_words_of.kp
theorem Txt.b_words_of {w : World} {K : PySem.W.Frag} {mg : Str → Option Value} (T : Txt w K mg) : Binds K (fdOf K d_words_of) ["body"] [] := T.F_words_of.bindsN fun _ _ _ _ _ _ us hl => match us, hl with | [_], _ => rfl
theorem Txt.kp_add_word {w : World} {K : PySem.W.Frag} {mg : Str → Option Value} (T : Txt w K mg) : PySem.W.keepIn K (.ref (He.ga K "add_word")) = true := T.F_add_word.kp
theorem Txt.b_add_word {w : World} {K : PySem.W.Frag} {mg : Str → Option Value} (T : Txt w K mg) : Binds K (fdOf K d_add_word) ["rows", "word"] [] := T.F_add_word.bindsN fun _ _ _ _ _ _ us hl => match us, hl with | [_, _], _ => rfl
theorem Txt.kp_check_program {w : World} {K : PySem.W.Frag} {mg : Str → Option Value} (T : Txt w K mg) : PySem.W.keepIn K (.ref (He.ga K "check_program")) = true := T.F_check_program.kp
theorem Txt.b_check_program {w : World} {K : PySem.W.Frag} {mg : Str → Option Value} (T : Txt w K mg) : Binds K (fdOf K d_check_program) ["program"] [] := T.F_check_program.bindsN fun _ _ _ _ _ _ us hl => match us, hl with | [_], _ => rfl
theorem Txt.kp_check_function {w : World} {K : PySem.W.Frag} {mg : Str → Option Value} (T : Txt w K mg) : PySem.W.keepIn K (.ref (He.ga K "check_function")) = true := T.F_check_function.kp
theorem Txt.b_check_function {w : World} {K : PySem.W.Frag} {mg : Str → Option Value} (T : Txt w K mg) : Binds K (fdOf K d_check_function) ["function", "functions"] [] := T.F_check_function.bindsN fun _ _ _ _ _ _ us hl => match us, hl with | [_, _], _ => rfl
theorem Txt.kp_function_fits {w : World} {K : PySem.W.Frag} {mg : Str → Option Value} (T : Txt w K mg) : PySem.W.keepIn K (.ref (He.ga K "function_fits")) = true := T.F_function_fits.kp
theorem Txt.b_function_fits {w : World} {K : PySem.W.Frag} {mg : Str → Option Value} (T : Txt w K mg) : Binds K (fdOf K d_function_fits) ["function", "functions"] [] := T.F_function_fits.bindsN fun _ _ _ _ _ _ us hl => match us, hl with | [_, _], _ => rfl
theorem Txt.kp_word_fits {w : World} {K : PySem.W.Frag} {mg : Str → Option Value} (T : Txt w K mg) : PySem.W.keepIn K (.ref (He.ga K "word_fits")) = true := T.F_word_fits.kp
theorem Txt.b_word_fits {w : World} {K : PySem.W.Frag} {mg : Str → Option Value} (T : Txt w K mg) : Binds K (fdOf K d_word_fits) ["word", "functions", "around"] [] := T.F_word_fits.bindsN fun _ _ _ _ _ _ us hl => match us, hl with | [_, _, _], _ => rfl
theorem Txt.kp_given_fits {w : World} {K : PySem.W.Frag} {mg : Str → Option Value} (T : Txt w K mg) : PySem.W.keepIn K (.ref (He.ga K "given_fits")) = true := T.F_given_fits.kp
theorem Txt.b_given_fits {w : World} {K : PySem.W.Frag} {mg : Str → Option Value} (T : Txt w K mg) : Binds K (fdOf K d_given_fits) ["kind", "given", "functions"] [] := T.F_given_fits.bindsN fun _ _ _ _ _ _ us hl => match us, hl with | [_, _, _], _ => rfl
theorem Txt.kp_numbered {w : World} {K : PySem.W.Frag} {mg : Str → Option Value} (T : Txt w K mg) : PySem.W.keepIn K (.ref (He.ga K "numbered")) = true := T.F_numbered.kp
theorem Txt.b_numbered {w : World} {K : PySem.W.Frag} {mg : Str → Option Value} (T : Txt w K mg) : Binds K (fdOf K d_numbered) ["program"] [] := T.F_numbered.bindsN fun _ _ _ _ _ _ us hl => match us, hl with | [_], _ => rfl
theorem Txt.kp_check_tree {w : World} {K : PySem.W.Frag} {mg : Str → Option Value} (T : Txt w K mg) : PySem.W.keepIn K (.ref (He.ga K "check_tree")) = true := T.F_check_tree.kp
theorem Txt.b_check_tree {w : World} {K : PySem.W.Frag} {mg : Str → Option Value} (T : Txt w K mg) : Binds K (fdOf K d_check_tree) ["program", "tree"] [] := T.F_check_tree.bindsN fun _ _ _ _ _ _ us hl => match us, hl with | [_, _], _ => rfl
theorem Txt.kp_parts_fit {w : World} {K : PySem.W.Frag} {mg : Str → Option Value} (T : Txt w K mg) : PySem.W.keepIn K (.ref (He.ga K "parts_fit")) = true := T.F_parts_fit.kp
theorem Txt.b_parts_fit {w : World} {K : PySem.W.Frag} {mg : Str → Option Value} (T : Txt w K mg) : Binds K (fdOf K d_parts_fit) ["parts", "functions"] [] := T.F_parts_fit.bindsN fun _ _ _ _ _ _ us hl => match us, hl with | [_, _], _ => rfl
theorem Txt.kp_part_fits {w : World} {K : PySem.W.Frag} {mg : Str → Option Value} (T : Txt w K mg) : PySem.W.keepIn K (.ref (He.ga K "part_fits")) = true := T.F_part_fits.kp
theorem Txt.b_part_fits {w : World} {K : PySem.W.Frag} {mg : Str → Option Value} (T : Txt w K mg) : Binds K (fdOf K d_part_fits) ["part", "functions"] [] := T.F_part_fits.bindsN fun _ _ _ _ _ _ us hl => match us, hl with | [_, _], _ => rfl
theorem Txt.kp_rises {w : World} {K : PySem.W.Frag} {mg : Str → Option Value} (T : Txt w K mg) : PySem.W.keepIn K (.ref (He.ga K "rises")) = true := T.F_rises.kp
theorem Txt.b_rises {w : World} {K : PySem.W.Frag} {mg : Str → Option Value} (T : Txt w K mg) : Binds K (fdOf K d_rises) ["row"] [] := T.F_rises.bindsN fun _ _ _ _ _ _ us hl => match us, hl with | [_], _ => rfl
theorem Txt.kp_stands_fit {w : World} {K : PySem.W.Frag} {mg : Str → Option Value} (T : Txt w K mg) : PySem.W.keepIn K (.ref (He.ga K "stands_fit")) = true := T.F_stands_fit.kp
theorem Txt.b_stands_fit {w : World} {K : PySem.W.Frag} {mg : Str → Option Value} (T : Txt w K mg) : Binds K (fdOf K d_stands_fit) ["stands", "parts"] [] := T.F_stands_fit.bindsN fun _ _ _ _ _ _ us hl => match us, hl with | [_, _], _ => rfl
theorem Txt.kp_has_end {w : World} {K : PySem.W.Frag} {mg : Str → Option Value} (T : Txt w K mg) : PySem.W.keepIn K (.ref (He.ga K "has_end")) = true := T.F_has_end.kp
theorem Txt.b_has_end {w : World} {K : PySem.W.Frag} {mg : Str → Option Value} (T : Txt w K mg) : Binds K (fdOf K d_has_end) ["stands", "part"] [] := T.F_has_end.bindsN fun _ _ _ _ _ _ us hl => match us, hl with | [_, _], _ => rfl
theorem Txt.kp_parts_below {w : World} {K : PySem.W.Frag} {mg : Str → Option Value} (T : Txt w K mg) : PySem.W.keepIn K (.ref (He.ga K "parts_below")) = true := T.F_parts_below.kp
theorem Txt.b_parts_below {w : World} {K : PySem.W.Frag} {mg : Str → Option Value} (T : Txt w K mg) : Binds K (fdOf K d_parts_below) ["stands", "part"] [] := T.F_parts_below.bindsN fun _ _ _ _ _ _ us hl => match us, hl with | [_, _], _ => rfl
theorem Txt.kp_size_of {w : World} {K : PySem.W.Frag} {mg : Str → Option Value} (T : Txt w K mg) : PySem.W.keepIn K (.ref (He.ga K "size_of")) = true := T.F_size_of.kp
theorem Txt.b_size_of {w : World} {K : PySem.W.Frag} {mg : Str → Option Value} (T : Txt w K mg) : Binds K (fdOf K d_size_of) ["program", "part"] [] := T.F_size_of.bindsN fun _ _ _ _ _ _ us hl => match us, hl with | [_, _], _ => rfl
theorem Txt.kp_begins {w : World} {K : PySem.W.Frag} {mg : Str → Option Value} (T : Txt w K mg) : PySem.W.keepIn K (.ref (He.ga K "begins")) = true := T.F_begins.kp
theorem Txt.b_begins {w : World} {K : PySem.W.Frag} {mg : Str → Option Value} (T : Txt w K mg) : Binds K (fdOf K d_begins) ["program", "tree"] [] := T.F_begins.bindsN fun _ _ _ _ _ _ us hl => match us, hl with | [_, _], _ => rfl
theorem Txt.kp_firsts_of {w : World} {K : PySem.W.Frag} {mg : Str → Option Value} (T : Txt w K mg) : PySem.W.keepIn K (.ref (He.ga K "firsts_of")) = true := T.F_firsts_of.kp
theorem Txt.b_firsts_of {w : World} {K : PySem.W.Frag} {mg : Str → Option Value} (T : Txt w K mg) : Binds K (fdOf K d_firsts_of) ["program", "tree"] [] := T.F_firsts_of.bindsN fun _ _ _ _ _ _ us hl => match us, hl with | [_, _], _ => rfl
theorem Txt.kp_end_of {w : World} {K : PySem.W.Frag} {mg : Str → Option Value} (T : Txt w K mg) : PySem.W.keepIn K (.ref (He.ga K "end_of")) = true := T.F_end_of.kp
theorem Txt.b_end_of {w : World} {K : PySem.W.Frag} {mg : Str → Option Value} (T : Txt w K mg) : Binds K (fdOf K d_end_of) ["program", "tree"] [] := T.F_end_of.bindsN fun _ _ _ _ _ _ us hl => match us, hl with | [_, _], _ => rfl
theorem Txt.kp_way_of {w : World} {K : PySem.W.Frag} {mg : Str → Option Value} (T : Txt w K mg) : PySem.W.keepIn K (.ref (He.ga K "way_of")) = true := T.F_way_of.kp
theorem Txt.b_way_of {w : World} {K : PySem.W.Frag} {mg : Str → Option Value} (T : Txt w K mg) : Binds K (fdOf K d_way_of) ["tree", "function"] [] := T.F_way_of.bindsN fun _ _ _ _ _ _ us hl => match us, hl with | [_, _], _ => rfl
theorem Txt.kp_check_room {w : World} {K : PySem.W.Frag} {mg : Str → Option Value} (T : Txt w K mg) : PySem.W.keepIn K (.ref (He.ga K "check_room")) = true := T.F_check_room.kp
theorem Txt.b_check_room {w : World} {K : PySem.W.Frag} {mg : Str → Option Value} (T : Txt w K mg) : Binds K (fdOf K d_check_room) ["room"] [] := T.F_check_room.bindsN fun _ _ _ _ _ _ us hl => match us, hl with | [_], _ => rfl
theorem Txt.kp_layouts {w : World} {K : PySem.W.Frag} {mg : Str → Option Value} (T : Txt w K mg) : PySem.W.keepIn K (.ref (He.ga K "layouts")) = true := T.F_layouts.kp
theorem Txt.b_layouts {w : World} {K : PySem.W.Frag} {mg : Str → Option Value} (T : Txt w K mg) : Binds K (fdOf K d_layouts) ["program", "tree"] [] := T.F_layouts.bindsN fun _ _ _ _ _ _ us hl => match us, hl with | [_, _], _ => rfl
theorem Txt.kp_check_number {w : World} {K : PySem.W.Frag} {mg : Str → Option Value} (T : Txt w K mg) : PySem.W.keepIn K (.ref (He.ga K "check_number")) = true := T.F_check_number.kp
theorem Txt.b_check_number {w : World} {K : PySem.W.Frag} {mg : Str → Option Value} (T : Txt w K mg) : Binds K (fdOf K d_check_number) ["number"] [] := T.F_check_number.bindsN fun _ _ _ _ _ _ us hl => match us, hl with | [_], _ => rfl
theorem Txt.kp_number_in {w : World} {K : PySem.W.Frag} {mg : Str → Option Value} (T : Txt w K mg) : PySem.W.keepIn K (.ref (He.ga K "number_in")) = true := T.F_number_in.kp
theorem Txt.b_number_in {w : World} {K : PySem.W.Frag} {mg : Str → Option Value} (T : Txt w K mg) : Binds K (fdOf K d_number_in) ["worth"] [] := T.F_number_in.bindsN fun _ _ _ _ _ _ us hl => match us, hl with | [_], _ => rfl
theorem Txt.kp_end_of_way {w : World} {K : PySem.W.Frag} {mg : Str → Option Value} (T : Txt w K mg) : PySem.W.keepIn K (.ref (He.ga K "end_of_way")) = true := T.F_end_of_way.kp
theorem Txt.b_end_of_way {w : World} {K : PySem.W.Frag} {mg : Str → Option Value} (T : Txt w K mg) : Binds K (fdOf K d_end_of_way) ["worth"] [] := T.F_end_of_way.bindsN fun _ _ _ _ _ _ us hl => match us, hl with | [_], _ => rfl
theorem Txt.kp_reckoned {w : World} {K : PySem.W.Frag} {mg : Str → Option Value} (T : Txt w K mg) : PySem.W.keepIn K (.ref (He.ga K "reckoned")) = true := T.F_reckoned.kp
theorem Txt.b_reckoned {w : World} {K : PySem.W.Frag} {mg : Str → Option Value} (T : Txt w K mg) : Binds K (fdOf K d_reckoned) ["name", "left", "right"] [] := T.F_reckoned.bindsN fun _ _ _ _ _ _ us hl => match us, hl with | [_, _, _], _ => rfl
theorem Txt.kp_run_in {w : World} {K : PySem.W.Frag} {mg : Str → Option Value} (T : Txt w K mg) : PySem.W.keepIn K (.ref (He.ga K "run_in")) = true := T.F_run_in.kp
theorem Txt.b_run_in {w : World} {K : PySem.W.Frag} {mg : Str → Option Value} (T : Txt w K mg) : Binds K (fdOf K d_run_in) ["program", "tree", "room", "number"] [] := T.F_run_in.bindsN fun _ _ _ _ _ _ us hl => match us, hl with | [_, _, _, _], _ => rfl
theorem Txt.kp_room_run {w : World} {K : PySem.W.Frag} {mg : Str → Option Value} (T : Txt w K mg) : PySem.W.keepIn K (.ref (He.ga K "room_run")) = true := T.F_room_run.kp
theorem Txt.b_room_run {w : World} {K : PySem.W.Frag} {mg : Str → Option Value} (T : Txt w K mg) : Binds K (fdOf K d_room_run) ["program", "tree", "room", "ahead", "back", "number"] [] := T.F_room_run.bindsN fun _ _ _ _ _ _ us hl => match us, hl with | [_, _, _, _, _, _], _ => rfl
theorem Txt.kp_check_places {w : World} {K : PySem.W.Frag} {mg : Str → Option Value} (T : Txt w K mg) : PySem.W.keepIn K (.ref (He.ga K "check_places")) = true := T.F_check_places.kp
theorem Txt.b_check_places {w : World} {K : PySem.W.Frag} {mg : Str → Option Value} (T : Txt w K mg) : Binds K (fdOf K d_check_places) ["program", "left_out"] [] := T.F_check_places.bindsN fun _ _ _ _ _ _ us hl => match us, hl with | [_, _], _ => rfl
theorem Txt.kp_run {w : World} {K : PySem.W.Frag} {mg : Str → Option Value} (T : Txt w K mg) : PySem.W.keepIn K (.ref (He.ga K "run")) = true := T.F_run.kp
theorem Txt.b_run {w : World} {K : PySem.W.Frag} {mg : Str → Option Value} (T : Txt w K mg) : Binds K (fdOf K d_run) ["program", "number"] [] := T.F_run.bindsN fun _ _ _ _ _ _ us hl => match us, hl with | [_, _], _ => rfl
theorem Txt.kp_traced {w : World} {K : PySem.W.Frag} {mg : Str → Option Value} (T : Txt w K mg) : PySem.W.keepIn K (.ref (He.ga K "traced")) = true := T.F_traced.kp
theorem Txt.b_traced {w : World} {K : PySem.W.Frag} {mg : Str → Option Value} (T : Txt w K mg) : Binds K (fdOf K d_traced) ["program", "number"] [] := T.F_traced.bindsN fun _ _ _ _ _ _ us hl => match us, hl with | [_, _], _ => rfl
theorem Txt.kp_plain_run {w : World} {K : PySem.W.Frag} {mg : Str → Option Value} (T : Txt w K mg) : PySem.W.keepIn K (.ref (He.ga K "plain_run")) = true := T.F_plain_run.kp
theorem Txt.b_plain_run {w : World} {K : PySem.W.Frag} {mg : Str → Option Value} (T : Txt w K mg) : Binds K (fdOf K d_plain_run) ["program", "number"] [] := T.F_plain_run.bindsN fun _ _ _ _ _ _ us hl => match us, hl with | [_, _], _ => rfl
theorem Txt.kp_law_mix {w : World} {K : PySem.W.Frag} {mg : Str → Option Value} (T : Txt w K mg) : PySem.W.keepIn K (.ref (He.ga K "_law_mix")) = true := T.F_law_mix.kp
theorem Txt.b_law_mix {w : World} {K : PySem.W.Frag} {mg : Str → Option Value} (T : Txt w K mg) : Binds K (fdOf K d_law_mix) ["_law_script", "_law_seed"] [] := T.F_law_mix.bindsN fun _ _ _ _ _ _ us hl => match us, hl with | [_, _], _ => rfl
theorem Txt.kp_law_next {w : World} {K : PySem.W.Frag} {mg : Str → Option Value} (T : Txt w K mg) : PySem.W.keepIn K (.ref (He.ga K "_law_next")) = true := T.F_law_next.kp
theorem Txt.b_law_next {w : World} {K : PySem.W.Frag} {mg : Str → Option Value} (T : Txt w K mg) : Binds K (fdOf K d_law_next) ["_law_h", "_law_many"] [] := T.F_law_next.bindsN fun _ _ _ _ _ _ us hl => match us, hl with | [_, _], _ => rfl
theorem Txt.kp_law_alike {w : World} {K : PySem.W.Frag} {mg : Str → Option Value} (T : Txt w K mg) : PySem.W.keepIn K (.ref (He.ga K "_law_alike")) = true := T.F_law_alike.kp
theorem Txt.b_law_alike {w : World} {K : PySem.W.Frag} {mg : Str → Option Value} (T : Txt w K mg) : Binds K (fdOf K d_law_alike) ["_law_found", "_law_due"] [] := T.F_law_alike.bindsN fun _ _ _ _ _ _ us hl => match us, hl with | [_, _], _ => rfl
theorem Txt.kp_law_leaf {w : World} {K : PySem.W.Frag} {mg : Str → Option Value} (T : Txt w K mg) : PySem.W.keepIn K (.ref (He.ga K "_law_leaf")) = true := T.F_law_leaf.kp
theorem Txt.b_law_leaf {w : World} {K : PySem.W.Frag} {mg : Str → Option Value} (T : Txt w K mg) : Binds K (fdOf K d_law_leaf) ["_law_h", "_law_e", "_law_kind"] [] := T.F_law_leaf.bindsN fun _ _ _ _ _ _ us hl => match us, hl with | [_, _, _], _ => rfl
theorem Txt.kp_law_call {w : World} {K : PySem.W.Frag} {mg : Str → Option Value} (T : Txt w K mg) : PySem.W.keepIn K (.ref (He.ga K "_law_call")) = true := T.F_law_call.kp
theorem Txt.b_law_call {w : World} {K : PySem.W.Frag} {mg : Str → Option Value} (T : Txt w K mg) : Binds K (fdOf K d_law_call) ["_law_h", "_law_e", "_law_deep"] [] := T.F_law_call.bindsN fun _ _ _ _ _ _ us hl => match us, hl with | [_, _, _], _ => rfl
theorem Txt.kp_law_less {w : World} {K : PySem.W.Frag} {mg : Str → Option Value} (T : Txt w K mg) : PySem.W.keepIn K (.ref (He.ga K "_law_less")) = true := T.F_law_less.kp
theorem Txt.b_law_less {w : World} {K : PySem.W.Frag} {mg : Str → Option Value} (T : Txt w K mg) : Binds K (fdOf K d_law_less) ["_law_h", "_law_e", "_law_deep"] [] := T.F_law_less.bindsN fun _ _ _ _ _ _ us hl => match us, hl with | [_, _, _], _ => rfl
theorem Txt.kp_law_body {w : World} {K : PySem.W.Frag} {mg : Str → Option Value} (T : Txt w K mg) : PySem.W.keepIn K (.ref (He.ga K "_law_body")) = true := T.F_law_body.kp
theorem Txt.b_law_body {w : World} {K : PySem.W.Frag} {mg : Str → Option Value} (T : Txt w K mg) : Binds K (fdOf K d_law_body) ["_law_h", "_law_e", "_law_kind", "_law_deep"] [] := T.F_law_body.bindsN fun _ _ _ _ _ _ us hl => match us, hl with | [_, _, _, _], _ => rfl
theorem Txt.kp_law_words {w : World} {K : PySem.W.Frag} {mg : Str → Option Value} (T : Txt w K mg) : PySem.W.keepIn K (.ref (He.ga K "_law_words")) = true := T.F_law_words.kp
theorem Txt.b_law_words {w : World} {K : PySem.W.Frag} {mg : Str → Option Value} (T : Txt w K mg) : Binds K (fdOf K d_law_words) ["_law_body_here"] [] := T.F_law_words.bindsN fun _ _ _ _ _ _ us hl => match us, hl with | [_], _ => rfl
theorem Txt.kp_law_program {w : World} {K : PySem.W.Frag} {mg : Str → Option Value} (T : Txt w K mg) : PySem.W.keepIn K (.ref (He.ga K "_law_program")) = true := T.F_law_program.kp
theorem Txt.b_law_program {w : World} {K : PySem.W.Frag} {mg : Str → Option Value} (T : Txt w K mg) : Binds K (fdOf K d_law_program) ["_law_h", "_law_most"] [] := T.F_law_program.bindsN fun _ _ _ _ _ _ us hl => match us, hl with | [_, _], _ => rfl
theorem Txt.kp_law_tree {w : World} {K : PySem.W.Frag} {mg : Str → Option Value} (T : Txt w K mg) : PySem.W.keepIn K (.ref (He.ga K "_law_tree")) = true := T.F_law_tree.kp
theorem Txt.b_law_tree {w : World} {K : PySem.W.Frag} {mg : Str → Option Value} (T : Txt w K mg) : Binds K (fdOf K d_law_tree) ["_law_h", "_law_program_here"] [] := T.F_law_tree.bindsN fun _ _ _ _ _ _ us hl => match us, hl with | [_, _], _ => rfl
theorem Txt.kp_law_laid {w : World} {K : PySem.W.Frag} {mg : Str → Option Value} (T : Txt w K mg) : PySem.W.keepIn K (.ref (He.ga K "_law_laid")) = true := T.F_law_laid.kp
theorem Txt.b_law_laid {w : World} {K : PySem.W.Frag} {mg : Str → Option Value} (T : Txt w K mg) : Binds K (fdOf K d_law_laid) ["_law_program_here", "_law_tree_here"] [] := T.F_law_laid.bindsN fun _ _ _ _ _ _ us hl => match us, hl with | [_, _], _ => rfl
theorem Txt.kp_law_number {w : World} {K : PySem.W.Frag} {mg : Str → Option Value} (T : Txt w K mg) : PySem.W.keepIn K (.ref (He.ga K "_law_number")) = true := T.F_law_number.kp
theorem Txt.b_law_number {w : World} {K : PySem.W.Frag} {mg : Str → Option Value} (T : Txt w K mg) : Binds K (fdOf K d_law_number) ["_law_h"] [] := T.F_law_number.bindsN fun _ _ _ _ _ _ us hl => match us, hl with | [_], _ => rfl
theorem Txt.kp_law_renamed {w : World} {K : PySem.W.Frag} {mg : Str → Option Value} (T : Txt w K mg) : PySem.W.keepIn K (.ref (He.ga K "_law_renamed")) = true := T.F_law_renamed.kp
theorem Txt.b_law_renamed {w : World} {K : PySem.W.Frag} {mg : Str → Option Value} (T : Txt w K mg) : Binds K (fdOf K d_law_renamed) ["_law_body_here", "_law_names"] [] := T.F_law_renamed.bindsN fun _ _ _ _ _ _ us hl => match us, hl with | [_, _], _ => rfl
theorem Txt.kp_law_other {w : World} {K : PySem.W.Frag} {mg : Str → Option Value} (T : Txt w K mg) : PySem.W.keepIn K (.ref (He.ga K "_law_other")) = true := T.F_law_other.kp
theorem Txt.b_law_other {w : World} {K : PySem.W.Frag} {mg : Str → Option Value} (T : Txt w K mg) : Binds K (fdOf K d_law_other) ["_law_h", "_law_program_here", "_law_tree_here"] [] := T.F_law_other.bindsN fun _ _ _ _ _ _ us hl => match us, hl with | [_, _, _], _ => rfl
theorem Txt.kp_law {w : World} {K : PySem.W.Frag} {mg : Str → Option Value} (T : Txt w K mg) : PySem.W.keepIn K (.ref (He.ga K "law")) = true := T.F_law.kp
theorem Txt.b_law {w : World} {K : PySem.W.Frag} {mg : Str → Option Value} (T : Txt w K mg) : Binds K (fdOf K d_law) ["_law_script"] [] := T.F_law.bindsN fun _ _ _ _ _ _ us hl => match us, hl with | [_], _ => rfl
theorem Txt.b_Hall_init {w : World} {K : PySem.W.Frag} {mg : Str → Option Value} (T : Txt w K mg) : Binds K (fdOf K d_Hall_init) ["self", "program", "tree", "room"] [] := T.F_Hall_init.bindsN fun _ _ _ _ _ _ us hl => match us, hl with | [_, _, _, _], _ => rfl
theorem Txt.b_Hall_look {w : World} {K : PySem.W.Frag} {mg : Str → Option Value} (T : Txt w K mg) : Binds K (fdOf K d_Hall_look) ["self", "function"] [] := T.F_Hall_look.bindsN fun _ _ _ _ _ _ us hl => match us, hl with | [_, _], _ => rfl
theorem Txt.b_Hall_there {w : World} {K : PySem.W.Frag} {mg : Str → Option Value} (T : Txt w K mg) : Binds K (fdOf K d_Hall_there) ["self", "function"] [] := T.F_Hall_there.bindsN fun _ _ _ _ _ _ us hl => match us, hl with | [_, _], _ => rfl
theorem Txt.b_Hall_cells {w : World} {K : PySem.W.Frag} {mg : Str → Option Value} (T : Txt w K mg) : Binds K (fdOf K d_Hall_cells) ["self"] [] := T.F_Hall_cells.bindsN fun _ _ _ _ _ _ us hl => match us, hl with | [_], _ => rfl
theorem Txt.b_Hall_brought {w : World} {K : PySem.W.Frag} {mg : Str → Option Value} (T : Txt w K mg) : Binds K (fdOf K d_Hall_brought) ["self"] [] := T.F_Hall_brought.bindsN fun _ _ _ _ _ _ us hl => match us, hl with | [_], _ => rfl
theorem Txt.b_Hall_has_part {w : World} {K : PySem.W.Frag} {mg : Str → Option Value} (T : Txt w K mg) : Binds K (fdOf K d_Hall_has_part) ["self", "part"] [] := T.F_Hall_has_part.bindsN fun _ _ _ _ _ _ us hl => match us, hl with | [_, _], _ => rfl
theorem Txt.b_Hall_bring {w : World} {K : PySem.W.Frag} {mg : Str → Option Value} (T : Txt w K mg) : Binds K (fdOf K d_Hall_bring) ["self", "part"] [] := T.F_Hall_bring.bindsN fun _ _ _ _ _ _ us hl => match us, hl with | [_, _], _ => rfl
theorem Txt.b_Run_init {w : World} {K : PySem.W.Frag} {mg : Str → Option Value} (T : Txt w K mg) : Binds K (fdOf K d_Run_init) ["self", "program"] [] := T.F_Run_init.bindsN fun _ _ _ _ _ _ us hl => match us, hl with | [_, _], _ => rfl
theorem Txt.b_Run_begin {w : World} {K : PySem.W.Frag} {mg : Str → Option Value} (T : Txt w K mg) : Binds K (fdOf K d_Run_begin) ["self", "number"] [] := T.F_Run_begin.bindsN fun _ _ _ _ _ _ us hl => match us, hl with | [_, _], _ => rfl
theorem Txt.b_Run_worth {w : World} {K : PySem.W.Frag} {mg : Str → Option Value} (T : Txt w K mg) : Binds K (fdOf K d_Run_worth) ["self", "function", "word", "argument"] [] := T.F_Run_worth.bindsN fun _ _ _ _ _ _ us hl => match us, hl with | [_, _, _, _], _ => rfl
theorem Txt.b_Run_say {w : World} {K : PySem.W.Frag} {mg : Str → Option Value} (T : Txt w K mg) : Binds K (fdOf K d_Run_say) ["self", "worth"] [] := T.F_Run_say.bindsN fun _ _ _ _ _ _ us hl => match us, hl with | [_, _], _ => rfl
theorem Txt.b_Run_call {w : World} {K : PySem.W.Frag} {mg : Str → Option Value} (T : Txt w K mg) : Binds K (fdOf K d_Run_call) ["self", "place", "called", "argument"] [] := T.F_Run_call.bindsN fun _ _ _ _ _ _ us hl => match us, hl with | [_, _, _, _], _ => rfl
theorem Txt.b_Run_enter {w : World} {K : PySem.W.Frag} {mg : Str → Option Value} (T : Txt w K mg) : Binds K (fdOf K d_Run_enter) ["self", "place", "called"] [] := T.F_Run_enter.bindsN fun _ _ _ _ _ _ us hl => match us, hl with | [_, _, _], _ => rfl
theorem Txt.b_Run_come_back {w : World} {K : PySem.W.Frag} {mg : Str → Option Value} (T : Txt w K mg) : Binds K (fdOf K d_Run_come_back) ["self", "place"] [] := T.F_Run_come_back.bindsN fun _ _ _ _ _ _ us hl => match us, hl with | [_, _], _ => rfl
def lawi : Nat := 85
end K07
/-! ### halls as data -/
namespace Ov
open PySem PySem.Spec PyProof.Rows L2
abbrev Cnt := Nat × Nat
abbrev Lay := List (Nat × Cnt)
def Has (ly : List (Option Cnt)) (l : Lay) : Bool := l.all fun e => decide (ly[e.1]? = some (some e.2))
def brg (ly : List (Option Cnt)) (l : Lay) : List (Option Cnt) := l.foldl (fun ly e => ly.set e.1 (some e.2)) ly
theorem brg_snoc (ly : List (Option Cnt)) (l : Lay) (e : Nat × Cnt) : brg ly (l ++ [e]) = (brg ly l).set e.1 (some e.2) := by
  unfold brg
  rw [List.foldl_append]
  rfl
theorem brg_len : ∀ (l : Lay) (ly : List (Option Cnt)), (brg ly l).length = ly.length
  | [], _ => rfl
  | e :: l, ly => by
    show (brg (ly.set e.1 (some e.2)) l).length = _
    rw [brg_len l, List.length_set]
theorem brg_out : ∀ (l : Lay) (ly : List (Option Cnt)) (c : Nat), (∀ e ∈ l, e.1 ≠ c) → (brg ly l)[c]? = ly[c]?
  | [], _, _, _ => rfl
  | e :: l, ly, c, h => by
    show (brg (ly.set e.1 (some e.2)) l)[c]? = _
    rw [brg_out l _ c fun d hd => h d (List.mem_cons_of_mem _ hd), List.getElem?_set_ne (h e List.mem_cons_self)]
theorem brg_in : ∀ (l : Lay) (ly : List (Option Cnt)) (e : Nat × Cnt), (l.map (·.1)).Nodup → (∀ e ∈ l, e.1 < ly.length) → e ∈ l → (brg ly l)[e.1]? = some (some e.2)
  | [], _, _, _, _, h => nomatch h
  | d :: l, ly, e, nd, lt, h => by
    rw [List.map_cons, List.nodup_cons] at nd
    show (brg (ly.set d.1 (some d.2)) l)[e.1]? = _
    rcases List.mem_cons.mp h with rfl | h
    · rw [brg_out l _ e.1 fun z hz ez => nd.1 (List.mem_map.mpr ⟨z, hz, ez⟩), List.getElem?_set_self (lt e List.mem_cons_self)]
    · exact brg_in l _ e nd.2 (fun z hz => by rw [List.length_set]; exact lt z (List.mem_cons_of_mem _ hz)) h
def Apart (l m : Lay) : Prop := ∀ e ∈ l, ∀ d ∈ m, e.1 ≠ d.1
theorem Apart.symm {l m : Lay} (h : Apart l m) : Apart m l := fun e he d hd z => h d hd e he z.symm
theorem has_iff {ly : List (Option Cnt)} {l : Lay} : Has ly l = true ↔ ∀ e ∈ l, ly[e.1]? = some (some e.2) := by
  unfold Has
  rw [List.all_eq_true]
  exact ⟨fun h e he => of_decide_eq_true (h e he), fun h e he => decide_eq_true (h e he)⟩
theorem has_keep {ly : List (Option Cnt)} {l m : Lay} (a : Apart l m) (h : Has ly l = true) : Has (brg ly m) l = true := by
  rw [has_iff] at h ⊢
  intro e he
  rw [brg_out m ly e.1 fun d hd z => a e he d hd z.symm]
  exact h e he
theorem has_new {ly : List (Option Cnt)} {l : Lay} (nd : (l.map (·.1)).Nodup) (lt : ∀ e ∈ l, e.1 < ly.length) : Has (brg ly l) l = true := has_iff.mpr fun e he => brg_in l ly e nd lt he
def lyr (L : List Lay) (q : Nat) : Lay := L[q]?.getD []
/-- a hall's ways and layouts -/
structure HlOk (wy : List (List Nat)) (L : List Lay) (far : Nat) : Prop where
  nd : ∀ q, ((lyr L q).map (·.1)).Nodup
  lt : ∀ q, ∀ e ∈ lyr L q, e.1 < far
  ln : ∀ q, (lyr L q).length ≤ 64
  cnt : wy.length ≤ 8 ∧ L.length ≤ 8
  wl : ∀ w ∈ wy, w.length ≤ 8 ∧ ∀ q ∈ w, q < L.length
  ap : ∀ w ∈ wy, w.Pairwise fun q r => q ≠ r ∧ Apart (lyr L q) (lyr L r)
def mis (ly : List (Option Cnt)) (L : List Lay) (w : List Nat) : List Nat := w.filter fun q => !Has ly (lyr L q)
def brgs (ly : List (Option Cnt)) (L : List Lay) (ms : List Nat) : List (Option Cnt) := ms.foldl (fun ly q => brg ly (lyr L q)) ly
def siz (L : List Lay) (ms : List Nat) : Nat := (ms.map fun q => (lyr L q).length).sum
def thr (ly : List (Option Cnt)) (L : List Lay) (w : List Nat) : Bool := w.all fun q => Has ly (lyr L q)
theorem brgs_snoc (ly : List (Option Cnt)) (L : List Lay) (ms : List Nat) (q : Nat) : brgs ly L (ms ++ [q]) = brg (brgs ly L ms) (lyr L q) := by
  unfold brgs
  rw [List.foldl_append]
  rfl
theorem siz_snoc (L : List Lay) (ms : List Nat) (q : Nat) : siz L (ms ++ [q]) = siz L ms + (lyr L q).length := by
  unfold siz
  rw [List.map_append, List.sum_append]
  simp
theorem brgs_len (L : List Lay) : ∀ (ms : List Nat) (ly : List (Option Cnt)), (brgs ly L ms).length = ly.length
  | [], _ => rfl
  | q :: ms, ly => by
    show (brgs (brg ly (lyr L q)) L ms).length = _
    rw [brgs_len L ms, brg_len]
theorem brgs_keep {L : List Lay} {q : Nat} : ∀ (ms : List Nat) (ly : List (Option Cnt)), (∀ r ∈ ms, Apart (lyr L q) (lyr L r)) → Has ly (lyr L q) = true → Has (brgs ly L ms) (lyr L q) = true
  | [], _, _, h => h
  | r :: ms, ly, a, h => brgs_keep ms _ (fun r hr => a r (List.mem_cons_of_mem _ hr)) (has_keep (a r List.mem_cons_self) h)
theorem brgs_in {wy : List (List Nat)} {L : List Lay} {far : Nat} (ok : HlOk wy L far) {q : Nat} : ∀ (ms : List Nat) (ly : List (Option Cnt)), far ≤ ly.length → (ms.Pairwise fun q r => q ≠ r ∧ Apart (lyr L q) (lyr L r)) → q ∈ ms → Has (brgs ly L ms) (lyr L q) = true
  | [], _, _, _, h => nomatch h
  | r :: ms, ly, lf, pw, h => by
    rw [List.pairwise_cons] at pw
    rcases List.mem_cons.mp h with rfl | h
    · exact brgs_keep ms _ (fun r hr => (pw.1 r hr).2) (has_new (ok.nd _) fun e he => Nat.lt_of_lt_of_le (ok.lt _ e he) lf)
    · exact brgs_in ok ms _ (by rw [brg_len]; exact lf) pw.2 h
theorem pair_ne {R : Nat → Nat → Prop} (sy : ∀ a b, R a b → R b a) {w : List Nat} (pw : w.Pairwise R) {q r : Nat} (hq : q ∈ w) (hr : r ∈ w) (ne : q ≠ r) : R q r := by
  obtain ⟨i, hi⟩ := List.mem_iff_getElem?.mp hq
  obtain ⟨j, hj⟩ := List.mem_iff_getElem?.mp hr
  obtain ⟨li, ei⟩ := List.getElem?_eq_some_iff.mp hi
  obtain ⟨lj, ej⟩ := List.getElem?_eq_some_iff.mp hj
  rcases Nat.lt_trichotomy i j with lt | eq | gt
  · have z := List.pairwise_iff_getElem.mp pw i j li lj lt
    rw [ei, ej] at z
    exact z
  · subst eq
    exact absurd (ei.symm.trans ej) ne
  · have z := List.pairwise_iff_getElem.mp pw j i lj li gt
    rw [ei, ej] at z
    exact sy _ _ z
/-- behind a look all of the way down is there -/
theorem look_has {wy : List (List Nat)} {L : List Lay} {far : Nat} (ok : HlOk wy L far) {w : List Nat} (hw : w ∈ wy) {ly : List (Option Cnt)} (lf : far ≤ ly.length) {q : Nat} (hq : q ∈ w) : Has (brgs ly L (mis ly L w)) (lyr L q) = true := by
  have pw := ok.ap w hw
  by_cases h : Has ly (lyr L q) = true
  · refine brgs_keep _ _ (fun r hr => ?_) h
    unfold mis at hr
    rw [List.mem_filter] at hr
    have ne : q ≠ r := fun z => by
      rw [← z, h] at hr
      cases hr.2
    exact (pair_ne (R := fun q r => q ≠ r ∧ Apart (lyr L q) (lyr L r)) (fun a b z => ⟨z.1.symm, z.2.symm⟩) pw hq hr.1 ne).2
  · refine brgs_in ok _ _ lf (pw.filter _) ?_
    unfold mis
    rw [List.mem_filter]
    refine ⟨hq, ?_⟩
    cases e : Has ly (lyr L q) with
    | true => exact absurd e h
    | false => rfl
/-! ### the layouts and ways of a tree -/
def layP (pr : List (Int × W)) (cs : List Int) (p : List Nat) : Lay := p.flatMap fun f => (List.range (fsz pr f).toNat).map fun n => ((cs[f]?.getD 0).toNat + n, (f, n))
theorem layP_snoc {pr : List (Int × W)} {cs : List Int} {p : List Nat} {f : Nat} : layP pr cs (p ++ [f]) = layP pr cs p ++ (List.range (fsz pr f).toNat).map fun n => ((cs[f]?.getD 0).toNat + n, (f, n)) := by
  unfold layP
  rw [List.flatMap_append]
  simp
theorem range_plus (a b : Nat) : List.range (a + b) = List.range a ++ (List.range b).map (a + ·) := by
  induction b with
  | zero => simp
  | succ b ih => rw [← Nat.add_assoc, List.range_succ, ih, List.range_succ, List.map_append, List.append_assoc]; rfl
theorem fsz_pos {pr : List (Int × W)} (ok : PrOk pr) {f : Nat} (h : f < pr.length) : 1 ≤ fsz pr f ∧ fsz pr f ≤ 8 := by
  unfold fsz
  rw [List.getElem?_eq_getElem h]
  have z := ok.f _ (List.getElem_mem h)
  exact ⟨z.1, z.2.1⟩
theorem psz_nn {pr : List (Int × W)} (ok : PrOk pr) : ∀ {p : List Nat}, (∀ x ∈ p, x < pr.length) → (p.length : Int) ≤ psz pr p ∧ psz pr p ≤ 8 * p.length
  | [], _ => ⟨Int.le_refl _, Int.le_refl _⟩
  | f :: p, h => by
    have z := psz_nn ok (p := p) fun x hx => h x (List.mem_cons_of_mem _ hx)
    have y := fsz_pos ok (h f List.mem_cons_self)
    have e : psz pr (f :: p) = fsz pr f + psz pr p := rfl
    rw [e, List.length_cons]
    omega
theorem bgn_nn {pr : List (Int × W)} (ok : PrOk pr) {ps : List (List Nat)} (hp : PInv pr.length ps) {dn : Nat → List Nat} {i : Nat} : 0 ≤ bgn pr ps dn i := by
  unfold bgn
  induction dn i with
  | nil => exact Int.le_refl _
  | cons y l ih =>
    rw [List.map_cons, List.sum_cons]
    have z : 0 ≤ psz pr (ps[y]?.getD []) := by
      cases e : ps[y]? with
      | none => exact Int.le_refl _
      | some p =>
        have := (psz_nn ok (p := p) fun x hx => hp.lt (List.mem_of_getElem? e) hx).1
        show 0 ≤ psz pr p
        omega
    omega
theorem lay_cells {pr : List (Int × W)} (ok : PrOk pr) {ps : List (List Nat)} (hp : PInv pr.length ps) {dn : Nat → List Nat} {cs : List Int} (hc : Cells pr ps dn cs) {i : Nat} {p : List Nat} (e : ps[i]? = some p) :
    ∀ j, j ≤ p.length → (layP pr cs (p.take j)).map (·.1) = (List.range (psz pr (p.take j)).toNat).map fun k => (bgn pr ps dn i).toNat + k
  | 0, _ => rfl
  | j + 1, hj => by
    have ih := lay_cells ok hp hc e j (by omega)
    have ef : p[j]? = some p[j] := List.getElem?_eq_getElem (by omega)
    have hf := hp.lt (List.mem_of_getElem? e) (List.mem_of_getElem? ef)
    have b0 := bgn_nn ok hp (dn := dn) (i := i)
    have p0 := (psz_nn ok (p := p.take j) fun x hx => hp.lt (List.mem_of_getElem? e) (List.mem_of_mem_take hx)).1
    have f0 := fsz_pos ok hf
    rw [List.take_add_one, ef]
    show (layP pr cs (p.take j ++ [p[j]])).map (·.1) = (List.range (psz pr (p.take j ++ [p[j]])).toNat).map _
    rw [layP_snoc, psz_snoc, List.map_append, ih, Int.toNat_add (by omega) (by omega), range_plus, List.map_append, List.map_map, List.map_map]
    congr 1
    refine List.map_congr_left fun n _ => ?_
    show ((cs[p[j]]?.getD 0).toNat + n) = (bgn pr ps dn i).toNat + ((psz pr (p.take j)).toNat + n)
    rw [hc.2 i p j _ e ef]
    show (bgn pr ps dn i + psz pr (p.take j)).toNat + n = _
    rw [Int.toNat_add b0 (by omega)]
    omega
/-- the part of a function -/
def prt (ps : List (List Nat)) (f : Nat) : Nat := ps.findIdx fun p => decide (f ∈ p)
theorem prt_eq {n : Nat} {ps : List (List Nat)} (h : PInv n ps) {f i : Nat} {p : List Nat} (e : ps[i]? = some p) (hf : f ∈ p) : prt ps f = i := by
  have ex : ∃ x ∈ ps, decide (f ∈ x) = true := ⟨p, List.mem_of_getElem? e, decide_eq_true hf⟩
  have lt := List.findIdx_lt_length.mpr ex
  have hm : decide (f ∈ ps[ps.findIdx fun p => decide (f ∈ p)]) = true := List.findIdx_getElem (w := lt)
  obtain ⟨j, hj⟩ := List.mem_iff_getElem?.mp (of_decide_eq_true hm)
  obtain ⟨j', hj'⟩ := List.mem_iff_getElem?.mp hf
  exact (h.uniq (List.getElem?_eq_getElem lt) hj e hj').1
def wayF (ps : List (List Nat)) (dn : Nat → List Nat) (f : Nat) : List Nat := dn (prt ps f) ++ [prt ps f]
def waysF (n : Nat) (ps : List (List Nat)) (dn : Nat → List Nat) : List (List Nat) := (List.range n).map (wayF ps dn)
def laysF (pr : List (Int × W)) (cs : List Int) (ps : List (List Nat)) : List Lay := ps.map (layP pr cs)
theorem Dn.clos {n : Nat} {ps : List (List Nat)} {st : List Int} {dn : Nat → List Nat} (hd : Dn n ps st dn) : ∀ {x : Nat} {l : List Nat}, Down st x l → (∀ q ∈ l, q < ps.length) → ∀ q ∈ l, ∀ r ∈ dn q, r ∈ l := by
  intro x l h
  induction h with
  | base _ => exact fun _ q hq => nomatch hq
  | @step x y l e h2 ih =>
    intro hl q hq r hr
    rcases List.mem_append.mp hq with hq | hq
    · exact List.mem_append_left _ (ih (fun q hq => hl q (List.mem_append_left _ hq)) q hq r hr)
    · obtain rfl := List.mem_singleton.mp hq
      have hy := hl q (List.mem_append_right _ hq)
      rw [(hd.down q hy).uniq h2] at hr
      exact List.mem_append_left _ hr
/-- who lies on a way has its way on it -/
theorem Dn.sub {n : Nat} {ps : List (List Nat)} {st : List Int} {dn : Nat → List Nat} (hd : Dn n ps st dn) {i q : Nat} (hi : i < ps.length) (hq : q ∈ dn i ++ [i]) {r : Nat} (hr : r ∈ dn q ++ [q]) : r ∈ dn i ++ [i] := by
  rcases List.mem_append.mp hr with hr | hr
  · rcases List.mem_append.mp hq with hq | hq
    · exact List.mem_append_left _ (hd.clos (hd.down i hi) (hd.lt i hi) q hq r hr)
    · obtain rfl := List.mem_singleton.mp hq
      exact List.mem_append_left _ hr
  · obtain rfl := List.mem_singleton.mp hr
    exact hq
theorem Dn.order {pr : List (Int × W)} (ok : PrOk pr) {ps : List (List Nat)} (hp : PInv pr.length ps) {st : List Int} {dn : Nat → List Nat} (hd : Dn pr.length ps st dn) : ∀ {x : Nat} {l : List Nat}, Down st x l → x < ps.length → (∀ q ∈ l, q < ps.length) →
    (l ++ [x]).Pairwise fun q r => bgn pr ps dn q + psz pr (ps[q]?.getD []) ≤ bgn pr ps dn r := by
  intro x l h
  induction h with
  | base _ => exact fun _ _ => List.pairwise_singleton _ _
  | @step x y l e h2 ih =>
    intro hx hl
    have hy := hl y (List.mem_append_right _ (List.mem_singleton.mpr rfl))
    have z := ih hy fun q hq => hl q (List.mem_append_left _ hq)
    have ex : bgn pr ps dn x = bgn pr ps dn y + psz pr (ps[y]?.getD []) := by
      have e1 := (hd.down x hx).uniq (.step e h2)
      have e2 := (hd.down y hy).uniq h2
      unfold bgn
      rw [e1, e2, List.map_append, List.sum_append]
      simp
    have y0 : 0 ≤ psz pr (ps[y]?.getD []) := by
      rw [List.getElem?_eq_getElem hy]
      have := (psz_nn ok (p := ps[y]) fun x hx => hp.lt (List.getElem_mem hy) hx).1
      show 0 ≤ psz pr ps[y]
      omega
    rw [List.pairwise_append] at z ⊢
    refine ⟨?_, List.pairwise_singleton _ _, fun q hq r hr => ?_⟩
    · rw [List.pairwise_append]
      exact z
    · obtain rfl := List.mem_singleton.mp hr
      rw [ex]
      rcases List.mem_append.mp hq with hq | hq
      · have := z.2.2 q hq y (List.mem_singleton.mpr rfl)
        omega
      · obtain rfl := List.mem_singleton.mp hq
        exact Int.le_refl _
theorem lyr_lays {pr : List (Int × W)} {cs : List Int} {ps : List (List Nat)} {q : Nat} : lyr (laysF pr cs ps) q = layP pr cs (ps[q]?.getD []) := by
  unfold lyr laysF
  rw [List.getElem?_map]
  cases ps[q]? <;> rfl
theorem lay_pos {pr : List (Int × W)} (ok : PrOk pr) {ps : List (List Nat)} (hp : PInv pr.length ps) {dn : Nat → List Nat} {cs : List Int} (hc : Cells pr ps dn cs) {q : Nat} : (lyr (laysF pr cs ps) q).map (·.1) = (List.range (psz pr (ps[q]?.getD [])).toNat).map fun k => (bgn pr ps dn q).toNat + k := by
  rw [lyr_lays]
  cases e : ps[q]? with
  | none => rfl
  | some p =>
    have z := lay_cells ok hp hc e p.length (Nat.le_refl _)
    rw [List.take_length] at z
    exact z
theorem lay_len {pr : List (Int × W)} (ok : PrOk pr) {ps : List (List Nat)} (hp : PInv pr.length ps) {dn : Nat → List Nat} {cs : List Int} (hc : Cells pr ps dn cs) {q : Nat} : ((lyr (laysF pr cs ps) q).length : Int) = psz pr (ps[q]?.getD []) := by
  have z := congrArg List.length (lay_pos ok hp hc (q := q))
  rw [List.length_map, List.length_map, List.length_range] at z
  have p0 : 0 ≤ psz pr (ps[q]?.getD []) := by
    cases e : ps[q]? with
    | none => exact Int.le_refl _
    | some p =>
      have := (psz_nn ok (p := p) fun x hx => hp.lt (List.mem_of_getElem? e) hx).1
      show 0 ≤ psz pr p
      omega
  omega
theorem hall_ok {pr : List (Int × W)} (ok : PrOk pr) {ps : List (List Nat)} {st : List Int} (ht : TrOk pr.length ps st) {dn : Nat → List Nat} (hd : Dn pr.length ps st dn) {cs : List Int} (hc : Cells pr ps dn cs) {m : Int} (hm : Far pr ps dn m) : HlOk (waysF pr.length ps dn) (laysF pr cs ps) m.toNat := by
  have hp := ht.p
  have pos : ∀ q e, e ∈ lyr (laysF pr cs ps) q → (bgn pr ps dn q).toNat ≤ e.1 ∧ (e.1 : Int) < bgn pr ps dn q + psz pr (ps[q]?.getD []) := fun q e he => by
    have h1 := List.mem_map_of_mem (f := fun x : Nat × Cnt => x.1) he
    rw [lay_pos ok hp hc] at h1
    obtain ⟨k, hk, ek⟩ := List.mem_map.mp h1
    have hk := List.mem_range.mp hk
    have b0 := bgn_nn ok hp (dn := dn) (i := q)
    have ek : (bgn pr ps dn q).toNat + k = e.1 := ek
    omega
  have pne : ∀ q, q < ps.length → 1 ≤ psz pr (ps[q]?.getD []) ∧ psz pr (ps[q]?.getD []) ≤ 64 := fun q hq => by
    rw [List.getElem?_eq_getElem hq]
    have h1 := psz_nn ok (p := ps[q]) fun x hx => hp.lt (List.getElem_mem hq) hx
    have h2 := List.length_pos_iff.mpr (hp.ne _ (List.getElem_mem hq))
    have h3 := hp.plen (List.getElem_mem hq)
    have h4 := ok.l8
    show 1 ≤ psz pr ps[q] ∧ psz pr ps[q] ≤ 64
    omega
  have hw : ∀ w ∈ waysF pr.length ps dn, ∃ i, i < ps.length ∧ w = dn i ++ [i] := fun w hw => by
    obtain ⟨f, hf, rfl⟩ := List.mem_map.mp hw
    obtain ⟨i, p, j, e1, e2⟩ := hp.stands (List.mem_range.mp hf)
    refine ⟨i, (List.getElem?_eq_some_iff.mp e1).1, ?_⟩
    unfold wayF
    rw [prt_eq hp e1 (List.mem_of_getElem? e2)]
  have l8 := ok.l8
  have pc := hp.count
  refine ⟨fun q => ?_, fun q e he => ?_, fun q => ?_, ⟨?_, ?_⟩, fun w h => ?_, fun w h => ?_⟩
  · rw [lay_pos ok hp hc]
    refine List.Pairwise.map _ (fun a b h z => h (by omega)) List.nodup_range
  · have h1 := pos q e he
    have hq : q < ps.length := by
      refine Nat.lt_of_not_le fun z => ?_
      rw [lyr_lays, List.getElem?_eq_none z] at he
      exact nomatch he
    have h2 := hm.2 q ps[q] (List.getElem?_eq_getElem hq)
    rw [List.getElem?_eq_getElem hq] at h1
    have h3 : (e.1 : Int) < bgn pr ps dn q + psz pr ps[q] := h1.2
    omega
  · have h1 := lay_len ok hp hc (q := q)
    by_cases hq : q < ps.length
    · have := pne q hq
      omega
    · rw [lyr_lays, List.getElem?_eq_none (by omega)]
      exact Nat.zero_le _
  · unfold waysF
    rw [List.length_map, List.length_range]
    exact l8
  · unfold laysF
    rw [List.length_map]
    omega
  · obtain ⟨i, hi, rfl⟩ := hw w h
    have h1 := hd.len i hi
    refine ⟨by rw [List.length_append, List.length_singleton]; omega, fun q hq => ?_⟩
    unfold laysF
    rw [List.length_map]
    rcases List.mem_append.mp hq with hq | hq
    · exact hd.lt i hi q hq
    · obtain rfl := List.mem_singleton.mp hq
      exact hi
  · obtain ⟨i, hi, rfl⟩ := hw w h
    refine List.Pairwise.imp_of_mem (fun {q r} hq hr z => ?_) (hd.order ok hp (hd.down i hi) hi (hd.lt i hi))
    have hq' : q < ps.length := by
      rcases List.mem_append.mp hq with hq | hq
      · exact hd.lt i hi q hq
      · obtain rfl := List.mem_singleton.mp hq
        exact hi
    have h1 := pne q hq'
    have b0 := bgn_nn ok hp (dn := dn) (i := q)
    have b1 := bgn_nn ok hp (dn := dn) (i := r)
    refine ⟨fun e => ?_, fun e he d hd' ed => ?_⟩
    · subst e
      omega
    · have h2 := pos q e he
      have h3 := pos r d hd'
      omega
end Ov
/-! ### a hall at a heap -/
namespace Ov
open PySem PySem.Spec PyProof.Rows L2
structure HA where
  a : Addr
  dx : Addr
  wy : Addr
  lo : Addr
  ly : Addr
def hallFs (x : HA) (mv : Int) : List (Str × V) := [("ways", .ref x.wy), ("layouts", .ref x.lo), ("lying", .ref x.ly), ("moved", .int mv)]
def CntAt (H : Hp) (v : V) (c : Cnt) : Prop := ∃ u, v = .ref u ∧ H u = some (.tup [.int (c.1 : Int), .int (c.2 : Int)])
theorem CntAt.keep {H H' : Hp} (k : Keep H H') {v : V} {c : Cnt} : CntAt H v c → CntAt H' v c := fun ⟨u, e, h⟩ => ⟨u, e, k _ _ h⟩
def CellAt (H : Hp) : V → Option Cnt → Prop
  | v, none => v = .non
  | v, some c => CntAt H v c
theorem CellAt.keep {H H' : Hp} (k : Keep H H') : ∀ {v : V} {c : Option Cnt}, CellAt H v c → CellAt H' v c
  | _, none, h => h
  | _, some _, h => CntAt.keep k h
def EntL (H : Hp) (v : V) (e : Nat × Cnt) : Prop := ∃ t u, v = .ref t ∧ H t = some (.tup [.int (e.1 : Int), u]) ∧ CntAt H u e.2
theorem EntL.keep {H H' : Hp} (k : Keep H H') {v : V} {e : Nat × Cnt} : EntL H v e → EntL H' v e := fun ⟨t, u, e1, h, c⟩ => ⟨t, u, e1, k _ _ h, c.keep k⟩
def LayAt (H : Hp) (b : Addr) (l : Lay) : Prop := ∃ vs, H b = some (.lst vs) ∧ Paired (EntL H) vs l
structure HallAt (K : PySem.W.Frag) (H0 H : Hp) (x : HA) (wys : List (List Nat)) (L : List Lay) (lc : List (Option Cnt)) (mv : Int) : Prop where
  ob : H x.a = some (.ins (He.ga K "Hall") x.dx (hallFs x mv))
  wy : ∃ ws : List Addr, H x.wy = some (.lst (ws.map V.ref)) ∧ Paired (fun b w => H b = some (.lst (nV w)) ∧ H0 b = none ∧ b ≠ x.ly) ws wys
  lo : ∃ ls : List Addr, H x.lo = some (.lst (ls.map V.ref)) ∧ Paired (fun b l => LayAt H b l ∧ H0 b = none ∧ b ≠ x.ly) ls L
  ly : ∃ vs, H x.ly = some (.lst vs) ∧ Paired (CellAt H) vs lc
  fa : H0 x.a = none
  fw : H0 x.wy = none ∧ x.wy ≠ x.ly
  fl : H0 x.lo = none ∧ x.lo ≠ x.ly
  fy : H0 x.ly = none
theorem paired_set {α β : Type} {R : α → β → Prop} {x : α} {y : β} : ∀ {l : List α} {m : List β}, Paired R l m → R x y → ∀ k : Nat, Paired R (l.set k x) (m.set k y)
  | _, _, .nil, _, _ => .nil
  | _, _, .cons _ r, h, 0 => .cons h r
  | _, _, .cons h1 r, h, k + 1 => .cons h1 (paired_set r h k)
section
variable {K : PySem.W.Frag} {H0 H H' H1 : Hp} {x : HA} {wys : List (List Nat)} {L : List Lay} {lc : List (Option Cnt)} {mv : Int}
theorem HallAt.keepF (h : HallAt K H0 H x wys L lc mv) (k : ∀ b o, H0 b = none → H b = some o → H' b = some o) (kt : Keep H H') : HallAt K H0 H' x wys L lc mv := by
  obtain ⟨h1, ⟨ws, h2, h3⟩, ⟨ls, h4, h5⟩, ⟨vs, h6, h7⟩, f1, f2, f3, f4⟩ := h
  exact ⟨k _ _ f1 h1, ⟨ws, k _ _ f2.1 h2, L2.Paired.mapP h3 fun b w z => ⟨k _ _ z.2.1 z.1, z.2⟩⟩, ⟨ls, k _ _ f3.1 h4, L2.Paired.mapP h5 fun b l z => by
    obtain ⟨⟨us, z1, z2⟩, z3⟩ := z
    exact ⟨⟨us, k _ _ z3.1 z1, L2.Paired.mapP z2 fun _ _ y => y.keep kt⟩, z3⟩⟩, ⟨vs, k _ _ f4 h6, L2.Paired.mapP h7 fun _ _ y => y.keep kt⟩, f1, f2, f3, f4⟩
theorem HallAt.same (h : HallAt K H0 H x wys L lc mv) (s : Same H H') : HallAt K H0 H' x wys L lc mv := h.keepF (fun b o _ e => s _ _ e) (Keep.same s)
theorem HallAt.but {p c : Addr} (h : HallAt K H0 H x wys L lc mv) (d0 : Dr H0 p c) (d : Dr H p c) (b : But p c H H') : HallAt K H0 H' x wys L lc mv := h.keepF (fun a o n e => b a o (fun z => by
    obtain ⟨m, k, ns, h1, h2, _⟩ := d0
    rw [z, h1] at n
    cases n) (fun z => by
    obtain ⟨m, k, ns, h1, h2, _⟩ := d0
    rw [z, h2] at n
    cases n) e) (Keep.but b d)
/-- all but the hall stays -/
def ButHl (x : HA) (H H' : Hp) : Prop := ∀ b o, b ≠ x.a → b ≠ x.ly → H b = some o → H' b = some o
theorem ButHl.refl : ButHl x H H := fun _ _ _ _ e => e
theorem ButHl.trans (p : ButHl x H H1) (q : ButHl x H1 H') : ButHl x H H' := fun b o n1 n2 e => q b o n1 n2 (p b o n1 n2 e)
theorem ButHl.same (s : Same H H') : ButHl x H H' := fun b o _ _ e => s b o e
theorem ButHl.keep (h : HallAt K H0 H x wys L lc mv) (b : ButHl x H H') : Keep H H' := fun a xs e => by
  obtain ⟨vs, h6, _⟩ := h.ly
  exact b a _ (ne_of e h.ob (by intro z; cases z)) (ne_of e h6 (by intro z; cases z)) e
theorem ButHl.s0 (h : HallAt K H0 H x wys L lc mv) (s : Same H0 H) (b : ButHl x H H') : Same H0 H' := fun a o e => b a o (ne_of_none e h.fa) (ne_of_none e h.fy) (s a o e)
theorem HallAt.setc (h : HallAt K H0 H x wys L lc mv) {vs : List V} (hl : H x.ly = some (.lst vs)) {v : V} {c : Cnt} (hv : CntAt H v c) (k : Nat) : HallAt K H0 (upd H x.ly (.lst (vs.set k v))) x wys L (lc.set k (some c)) mv ∧ ButHl x H (upd H x.ly (.lst (vs.set k v))) := by
  have kt := Keep.updL (ys := vs.set k v) hl
  obtain ⟨h1, ⟨ws, h2, h3⟩, ⟨ls, h4, h5⟩, ⟨us, h6, h7⟩, f1, f2, f3, f4⟩ := h
  obtain rfl : us = vs := by
    have z := h6.symm.trans hl
    cases z
    rfl
  refine ⟨⟨by rw [upd_ne (ne_of h1 hl (by intro z; cases z))]; exact h1, ⟨ws, by rw [upd_ne f2.2]; exact h2, L2.Paired.mapP h3 fun b w z => ⟨by rw [upd_ne z.2.2]; exact z.1, z.2⟩⟩, ⟨ls, by rw [upd_ne f3.2]; exact h4, L2.Paired.mapP h5 fun b l z => ?_⟩, ⟨us.set k v, upd_same, ?_⟩, f1, f2, f3, f4⟩, fun b o _ n e => by rw [upd_ne n]; exact e⟩
  · obtain ⟨⟨us', z1, z2⟩, z3⟩ := z
    exact ⟨⟨us', by rw [upd_ne z3.2]; exact z1, L2.Paired.mapP z2 fun _ _ y => y.keep kt⟩, z3⟩
  · have h8 := L2.Paired.mapP h7 fun _ _ y => CellAt.keep kt y
    exact paired_set h8 (show CellAt _ v (some c) from hv.keep kt) k
theorem hall_mv {m : Int} : putF "moved" (.int m) (hallFs x mv) = hallFs x m := by rfl
theorem HallAt.mvd (h : HallAt K H0 H x wys L lc mv) (m : Int) : HallAt K H0 (upd H x.a (.ins (He.ga K "Hall") x.dx (putF "moved" (.int m) (hallFs x mv)))) x wys L lc m ∧ ButHl x H (upd H x.a (.ins (He.ga K "Hall") x.dx (putF "moved" (.int m) (hallFs x mv)))) := by
  rw [hall_mv]
  obtain ⟨h1, ⟨ws, h2, h3⟩, ⟨ls, h4, h5⟩, ⟨us, h6, h7⟩, f1, f2, f3, f4⟩ := h
  have ne : ∀ {b : Addr} {l : List V}, H b = some (.lst l) → b ≠ x.a := fun e => ne_of e h1 (by intro z; cases z)
  have kt : Keep H (upd H x.a (.ins (He.ga K "Hall") x.dx (hallFs x m))) := fun b xs e => by
    rw [upd_ne (ne_of e h1 (by intro z; cases z))]
    exact e
  exact ⟨⟨upd_same, ⟨ws, by rw [upd_ne (ne h2)]; exact h2, L2.Paired.mapP h3 fun b w z => ⟨by rw [upd_ne (ne z.1)]; exact z.1, z.2⟩⟩, ⟨ls, by rw [upd_ne (ne h4)]; exact h4, L2.Paired.mapP h5 fun b l z => by
    obtain ⟨⟨us', z1, z2⟩, z3⟩ := z
    exact ⟨⟨us', by rw [upd_ne (ne z1)]; exact z1, L2.Paired.mapP z2 fun _ _ y => y.keep kt⟩, z3⟩⟩, ⟨us, by rw [upd_ne (ne h6)]; exact h6, L2.Paired.mapP h7 fun _ _ y => CellAt.keep kt y⟩, f1, f2, f3, f4⟩, fun b o n _ e => by rw [upd_ne n]; exact e⟩
end
/-- all is as it must be: the hall's own heap, its ways and layouts, as many cells -/
structure HallIn (K : PySem.W.Frag) (H0 H : Hp) (x : HA) (wys : List (List Nat)) (L : List Lay) (lc : List (Option Cnt)) (mv : Int) (far : Nat) : Prop where
  at_ : HallAt K H0 H x wys L lc mv
  ok : HlOk wys L far
  le : far ≤ lc.length ∧ lc.length ≤ 64
def spCheckRoom : Sp := fun vs H Q _ => ∃ r : Int, vs = [.int r] ∧ 1 ≤ r ∧ r ≤ 64 ∧ Q .non H
def spLayouts : Sp := fun vs H Q _ => ∃ v t pr ps st dn, vs = [v, t] ∧ preT H v t pr ps st ∧ Dn pr.length ps st dn ∧ ∀ H' p ls cs, Same H H' → H p = none → H' p = some (.lst (ls.map V.ref)) → Cells pr ps dn cs → Paired (fun b l => LayAt H' b l ∧ H b = none) ls (laysF pr cs ps) → Q (.ref p) H'
def spHallInit (K : PySem.W.Frag) : Sp := fun vs H Q _ => ∃ (H0 : Hp) (a dx : Addr) (v t : V) (pr : List (Int × W)) (ps : List (List Nat)) (st : List Int) (dn : Nat → List Nat) (far : Int) (room : Nat), vs = [.ref a, v, t, .int (room : Int)] ∧ H a = some (.ins (He.ga K "Hall") dx []) ∧ H0 a = none ∧ (∀ b, H b = none → H0 b = none) ∧ preT H v t pr ps st ∧ Dn pr.length ps st dn ∧ Far pr ps dn far ∧ far ≤ (room : Int) ∧ room ≤ 64 ∧
  ∀ H' x cs, (∀ b o, b ≠ a → H b = some o → H' b = some o) → x.a = a → x.dx = dx → Cells pr ps dn cs → HallIn K H0 H' x (waysF pr.length ps dn) (laysF pr cs ps) (List.replicate room none) 0 far.toNat → Q .non H'
def spHasPart (K : PySem.W.Frag) : Sp := fun vs H Q _ => ∃ (H0 : Hp) (x : HA) (wys : List (List Nat)) (L : List Lay) (lc : List (Option Cnt)) (mv : Int) (far : Nat) (q : Nat), vs = [.ref x.a, .int (q : Int)] ∧ HallIn K H0 H x wys L lc mv far ∧ q < L.length ∧ ∀ H', Same H H' → Q (.bl (Has lc (lyr L q))) H'
def spBring (K : PySem.W.Frag) : Sp := fun vs H Q _ => ∃ (H0 : Hp) (x : HA) (wys : List (List Nat)) (L : List Lay) (lc : List (Option Cnt)) (mv : Int) (far : Nat) (q : Nat), vs = [.ref x.a, .int (q : Int)] ∧ HallIn K H0 H x wys L lc mv far ∧ q < L.length ∧ ∀ H', ButHl x H H' → HallIn K H0 H' x wys L (brg lc (lyr L q)) (mv + ((lyr L q).length : Nat)) far → Q .non H'
def spLook (K : PySem.W.Frag) : Sp := fun vs H Q _ => ∃ (H0 : Hp) (x : HA) (wys : List (List Nat)) (L : List Lay) (lc : List (Option Cnt)) (mv : Int) (far : Nat) (f : Nat) (w : List Nat), vs = [.ref x.a, .int (f : Int)] ∧ HallIn K H0 H x wys L lc mv far ∧ wys[f]? = some w ∧
  ∀ H' r, ButHl x H H' → H r = none → r ≠ x.ly → H' r = some (.lst (nV (mis lc L w))) → HallIn K H0 H' x wys L (brgs lc L (mis lc L w)) (mv + (siz L (mis lc L w) : Nat)) far → Q (.ref r) H'
def spThere (K : PySem.W.Frag) : Sp := fun vs H Q _ => ∃ (H0 : Hp) (x : HA) (wys : List (List Nat)) (L : List Lay) (lc : List (Option Cnt)) (mv : Int) (far : Nat) (f : Nat) (w : List Nat), vs = [.ref x.a, .int (f : Int)] ∧ HallIn K H0 H x wys L lc mv far ∧ wys[f]? = some w ∧ ∀ H', Same H H' → Q (.bl (thr lc L w)) H'
def spCells (K : PySem.W.Frag) : Sp := fun vs H Q _ => ∃ (H0 : Hp) (x : HA) (wys : List (List Nat)) (L : List Lay) (lc : List (Option Cnt)) (mv : Int) (far : Nat), vs = [.ref x.a] ∧ HallIn K H0 H x wys L lc mv far ∧ ∀ H' r us, Same H H' → H r = none → H' r = some (.lst us) → Paired (CellAt H') us lc → Q (.ref r) H'
def spBrought (K : PySem.W.Frag) : Sp := fun vs H Q _ => ∃ (H0 : Hp) (x : HA) (wys : List (List Nat)) (L : List Lay) (lc : List (Option Cnt)) (mv : Int) (far : Nat), vs = [.ref x.a] ∧ HallIn K H0 H x wys L lc mv far ∧ Q (.int mv) H
theorem cells_none {H : Hp} : ∀ n : Nat, Paired (CellAt H) (List.replicate n V.non) (List.replicate n none)
  | 0 => .nil
  | n + 1 => .cons rfl (cells_none n)
/-- a cell's data -/
def cntD (c : Cnt) : PyData := .tuple [.int (c.1 : Int), .int (c.2 : Int)]
def cellD : Option Cnt → PyData
  | none => .none
  | some c => cntD c
theorem cell_dp {K : PySem.W.Frag} {H : Hp} : ∀ {v : V} {c : Option Cnt}, CellAt H v c → Dp K H v (cellD c)
  | _, none, rfl => .non
  | _, some _, ⟨_, rfl, h⟩ => .tup (SqT.of h) (.cons (.int _) (.cons (.int _) .nil))
theorem cell_shaped : ∀ c : Option Cnt, SeqAt.shaped (cellD c) = true
  | none => by simp [cellD, SeqAt.shaped, PyData.depth, PyData.canLay0]
  | some c => pairShaped _ _
theorem cell_eqv (c : Option Cnt) (d : Cnt) : PyData.eqv (cellD c) (cellD (some d)) = decide (c = some d) := by
  cases c with
  | none => simp [cellD, cntD, PyData.eqv]
  | some c =>
    obtain ⟨a, b⟩ := c
    obtain ⟨a', b'⟩ := d
    have e : ∀ u v : Nat, ((u : Int) == (v : Int)) = decide (u = v) := fun u v => by
      rw [Bool.eq_iff_iff, beq_iff_eq, decide_eq_true_iff]
      omega
    simp [cellD, cntD, PyData.eqv, PyData.eqvAll, e]
end Ov
/-! ### what a law needs of halls -/
namespace Ov
open PySem PySem.Spec PyProof.Rows L2
theorem pig : ∀ (n : Nat) (l : List Nat), l.Nodup → (∀ x ∈ l, x < n) → l.length ≤ n
  | 0, l, _, h => by
    cases l with
    | nil => exact Nat.le_refl _
    | cons x l => exact absurd (h x List.mem_cons_self) (Nat.not_lt_zero _)
  | n + 1, l, nd, h => by
    have z := pig n (l.erase n) (nd.erase n) fun x hx => by
      have h1 := (List.Nodup.mem_erase_iff nd).mp hx
      have h2 := h x h1.2
      have h3 := h1.1
      omega
    rw [List.length_erase] at z
    split at z <;> omega
theorem psz_app (pr : List (Int × W)) (p q : List Nat) : psz pr (p ++ q) = psz pr p + psz pr q := by
  unfold psz
  rw [List.map_append, List.sum_append]
theorem psz_flat (pr : List (Int × W)) (g : Nat → List Nat) : ∀ w : List Nat, psz pr (w.flatMap g) = (w.map fun q => psz pr (g q)).sum
  | [] => rfl
  | q :: w => by rw [List.flatMap_cons, psz_app, psz_flat pr g w, List.map_cons, List.sum_cons]
theorem far_le {pr : List (Int × W)} (ok : PrOk pr) {ps : List (List Nat)} {st : List Int} (ht : TrOk pr.length ps st) {dn : Nat → List Nat} (hd : Dn pr.length ps st dn) {m : Int} (hm : Far pr ps dn m) : 1 ≤ m ∧ m ≤ 64 := by
  have hp := ht.p
  obtain ⟨i, p, e, rfl⟩ := hm.1
  have hi := (List.getElem?_eq_some_iff.mp e).1
  have pne : ∀ q, q < ps.length → 1 ≤ psz pr (ps[q]?.getD []) := fun q hq => by
    rw [List.getElem?_eq_getElem hq]
    have h1 := psz_nn ok (p := ps[q]) fun x hx => hp.lt (List.getElem_mem hq) hx
    have h2 := List.length_pos_iff.mpr (hp.ne _ (List.getElem_mem hq))
    show 1 ≤ psz pr ps[q]
    omega
  have b0 := bgn_nn ok hp (dn := dn) (i := i)
  have lt : ∀ q ∈ dn i ++ [i], q < ps.length := fun q hq => by
    rcases List.mem_append.mp hq with hq | hq
    · exact hd.lt i hi q hq
    · rw [List.mem_singleton.mp hq]
      exact hi
  have e1 : bgn pr ps dn i + psz pr p = psz pr ((dn i ++ [i]).flatMap fun q => ps[q]?.getD []) := by
    rw [psz_flat, bgn_psz, e]
    rfl
  have z := pne i hi
  rw [e] at z
  have z : 1 ≤ psz pr p := z
  refine ⟨by omega, ?_⟩
  rw [e1]
  have mem : ∀ x ∈ (dn i ++ [i]).flatMap (fun q => ps[q]?.getD []), x < pr.length := fun x hx => by
    obtain ⟨q, hq, hx⟩ := List.mem_flatMap.mp hx
    rw [List.getElem?_eq_getElem (lt q hq)] at hx
    exact hp.lt (List.getElem_mem (lt q hq)) hx
  have nd : ((dn i ++ [i]).flatMap fun q => ps[q]?.getD []).Nodup := by
    unfold List.Nodup
    rw [List.pairwise_flatMap]
    refine ⟨fun q hq => ?_, ?_⟩
    · rw [List.getElem?_eq_getElem (lt q hq)]
      exact List.Pairwise.imp (fun z => by omega) (hp.rise _ (List.getElem_mem (lt q hq)))
    · refine List.Pairwise.imp_of_mem (fun {q r} hq hr z => ?_) (hd.order ok hp (hd.down i hi) hi (hd.lt i hi))
      intro x hx y hy exy
      subst exy
      rw [List.getElem?_eq_getElem (lt q hq)] at hx
      rw [List.getElem?_eq_getElem (lt r hr)] at hy
      obtain ⟨j, hj⟩ := List.mem_iff_getElem?.mp hx
      obtain ⟨k, hk⟩ := List.mem_iff_getElem?.mp hy
      have eq := (hp.uniq (List.getElem?_eq_getElem (lt q hq)) hj (List.getElem?_eq_getElem (lt r hr)) hk).1
      subst eq
      have := pne q (lt q hq)
      omega
  have h1 := pig pr.length _ nd mem
  have h2 := (psz_nn ok mem).2
  have := ok.l8
  omega
theorem siz_eq {pr : List (Int × W)} (ok : PrOk pr) {ps : List (List Nat)} (hp : PInv pr.length ps) {dn : Nat → List Nat} {cs : List Int} (hc : Cells pr ps dn cs) : ∀ ms : List Nat, ((siz (laysF pr cs ps) ms : Nat) : Int) = (ms.map fun q => psz pr (ps[q]?.getD [])).sum
  | [] => rfl
  | q :: ms => by
    have z := lay_len ok hp hc (q := q)
    have y := siz_eq ok hp hc ms
    have e : siz (laysF pr cs ps) (q :: ms) = (lyr (laysF pr cs ps) q).length + siz (laysF pr cs ps) ms := rfl
    rw [e, List.map_cons, List.sum_cons, Int.natCast_add, z, y]
theorem atI_last (l : List Nat) (x : Nat) : atI (nV (l ++ [x])) (-1) = some (.int (x : Int)) := by
  have e : (nV (l ++ [x])).length = l.length + 1 := by rw [nV_len, List.length_append]; rfl
  have z : ixN (l.length + 1) (-1) = some l.length := by
    unfold ixN
    rw [if_neg (by omega), if_pos (by omega)]
    congr 1
    omega
  unfold atI
  rw [e, z, nV_app]
  show (nV l ++ [V.int (x : Int)])[l.length]? = _
  rw [List.getElem?_append_right (by rw [nV_len]; exact Nat.le_refl _), nV_len, Nat.sub_self]
  rfl
section
variable {K : PySem.W.Frag} {H0 H H' H1 : Hp} {x : HA} {wys : List (List Nat)} {L : List Lay} {lc : List (Option Cnt)} {mv : Int} {far : Nat} {h c : Addr}
theorem HallIn.same (i : HallIn K H0 H x wys L lc mv far) (s : Same H H') : HallIn K H0 H' x wys L lc mv far := ⟨i.at_.same s, i.ok, i.le⟩
theorem HallIn.but (i : HallIn K H0 H x wys L lc mv far) (d0 : Dr H0 h c) (d : Dr H h c) (b : But h c H H') : HallIn K H0 H' x wys L lc mv far := ⟨i.at_.but d0 d b, i.ok, i.le⟩
theorem Dr.ne0 (d0 : Dr H0 h c) (i : HallIn K H0 H x wys L lc mv far) : h ≠ x.a ∧ h ≠ x.ly ∧ c ≠ x.a ∧ c ≠ x.ly := by
  obtain ⟨m, k, ns, h1, h2, _⟩ := d0
  exact ⟨ne_of_none h1 i.at_.fa, ne_of_none h1 i.at_.fy, ne_of_none h2 i.at_.fa, ne_of_none h2 i.at_.fy⟩
theorem Dr.hall (d : Dr H h c) (d0 : Dr H0 h c) (i : HallIn K H0 H x wys L lc mv far) (b : ButHl x H H') : Dr H' h c := by
  obtain ⟨n1, n2, n3, n4⟩ := Dr.ne0 d0 i
  obtain ⟨m, k, ns, h1, h2, h3⟩ := d
  exact ⟨m, k, ns, b _ _ n1 n2 h1, b _ _ n3 n4 h2, h3⟩
end
end Ov

/-! ### comprehensions that errors leave: the words of the model -/
namespace Ov
open PySem PySem.Spec PyProof.Rows L2
/-- what is asked of a comprehension's end, by its own environment -/
def cPost (M : Model) (A : Around) (E : Value → Shared → Prop) (use : Option (Value → Sem Unit)) (Q : Value → Shared → Prop) (acc : Value) (cenv : Env) : Result → Shared → Prop := fun r s' =>
  match r with
  | .ok _ => compPost M A E use Q acc cenv.locals r s'
  | .error x => ∃ m, s'.heap.Ns cenv.locals m ∧ ∀ (h' : Heap) (m' : Str → Option Value), h'.Ns cenv.locals m' → Heap.SameBut cenv.locals s'.heap h' →
      wpAny M A (PySem.passOn "comprehension.variables-let-go" x cenv) (fun (_ : Value) _ => False) E { s' with heap := h' }
theorem comp_exc {M : Model} {A : Around} {E : Value → Shared → Prop} {s : Shared} {env : Env} {e : Expr} {scope : Scope} {pos : Pos} {newAcc first : Sem Value} {g : Comprehension} {gs : List Comprehension} {cl : List (Str × Addr)} {use : Option (Value → Sem Unit)} {Q : Value → Shared → Prop}
    (hc : clausesOf e = g :: gs) (hf : ∀ x, foldedSetIterable g.iter env x = pure x) (hcl : closureFor scope env = pure cl) (hk : scope.kind = .function)
    (hl : ∀ x ∈ scope.names, x.2 = .local → List.lookup x.1 scope.names = some .local)
    (h : wpAny M A first (fun x s₁ => wpAny M A (pyIter x) (fun it s₂ => wpAny M A newAcc (fun acc s₃ => wpAny M A (newFunctionEnv scope env.globals cl [] env.qual none .none (some env)) (fun cenv s₄ =>
      codeAny M A (.compStart e 0 it acc { scope := relabel scope env, locals := cenv.locals, globals := cenv.globals, cells := cenv.cells, qual := cenv.qual, func := cenv.func, code := cenv.code, frame := cenv.frame, builtins := cenv.builtins })
        (cPost M A E use Q acc { scope := relabel scope env, locals := cenv.locals, globals := cenv.globals, cells := cenv.cells, qual := cenv.qual, func := cenv.func, code := cenv.code, frame := cenv.frame, builtins := cenv.builtins }) s₄) E s₃) E s₂) E s₁) E s) :
    wpAny M A (comprehension e scope env pos newAcc false first use) Q E s := by
  unfold comprehension
  refine wpAny_bind (wpAny_mono h (fun x s1 h => ?_) fun _ _ z => z)
  refine wpAny_bind (wpAny_standAt ?_)
  rw [hc]
  refine wpAny_bind (wpAny_of_eq (hf x) ?_)
  refine wpAny_bind (wpAny_holding ?_)
  refine wpAny_mono h (fun it s2 h => ?_) fun _ _ z => z
  refine wpAny_standIf ?_
  refine wpAny_bind (wpAny_mono h (fun acc s3 h => ?_) fun _ _ z => z)
  refine wpAny_bind (wpAny_of_eq hcl ?_)
  refine wpAny_bind (wpAny_mono h (fun cenv s4 h => ?_) fun _ _ z => z)
  refine wpAny_holding ?_
  refine wpAny_bind (wpAny_attempt (wpAny_holding (wpAny_run (codeAny_mono h fun r s5 hr => ?_) (by decide))))
  have hkk : ({ scope := relabel scope env, locals := cenv.locals, globals := cenv.globals, cells := cenv.cells, qual := cenv.qual, func := cenv.func, code := cenv.code, frame := cenv.frame, builtins := cenv.builtins } : Env).scope.kind = .function := hk
  have hloc : ∀ x ∈ scope.names, x.2 = .local → ({ scope := relabel scope env, locals := cenv.locals, globals := cenv.globals, cells := cenv.cells, qual := cenv.qual, func := cenv.func, code := cenv.code, frame := cenv.frame, builtins := cenv.builtins } : Env).kindOf x.1 = some .local := fun x hx e => lookup_relabel_local (hl x hx e)
  cases r with
  | error x =>
    obtain ⟨m, hm, hr⟩ := hr
    refine wpAny_bind (wpAny_holding (wpAny_comp_letGo hkk _ s5 m ?_ hm fun h' m' hm' sb => ?_))
    · exact fun x hx e => hloc x (List.mem_filter.mp (List.mem_reverse.mp hx)).1 e
    · exact wpAny_mono (hr h' m' hm' sb) (fun _ _ z => z.elim) fun _ _ z => z
  | ok a =>
    cases use with
    | none =>
      obtain ⟨m, hm, hr⟩ := hr
      refine wpAny_bind (wpAny_holding (wpAny_comp_letGo hkk _ s5 m ?_ hm fun h' m' hm' sb => wpAny_pure (hr h' sb)))
      exact fun x hx e => hloc x (List.mem_filter.mp (List.mem_reverse.mp hx)).1 e
    | some u =>
      refine wpAny_bind (wpAny_rule (wpAny_bind (wpAny_holding (wpAny_mono hr (fun _ s6 ⟨m, hm, hr⟩ => ?_) fun _ _ z => z))))
      refine wpAny_bind (wpAny_comp_letGo hkk _ s6 m ?_ hm fun h' m' hm' sb => wpAny_pure (hr h' sb))
      intro x hx e
      refine hloc x ?_ e
      rcases List.mem_append.mp hx with hx | hx
      · exact (List.mem_filter.mp (List.mem_reverse.mp (List.mem_of_mem_drop hx))).1
      · exact (List.mem_filter.mp (List.mem_reverse.mp (List.mem_of_mem_take hx))).1

theorem noteFrame_eq {e : Value} {env cenv : Env} (h : cenv.frame = env.frame) : noteFrame e cenv = noteFrame e env := by
  unfold noteFrame PySem.frameOf
  rw [h]
theorem passOn_eq {α : Type} {w : String} {e : Value} {env cenv : Env} (h : cenv.frame = env.frame) : (PySem.passOn w e cenv : Sem α) = PySem.passOn w e env := by
  unfold PySem.passOn
  rw [h]
theorem ff_base {h h2 B B' : Heap} : ∀ {l : List Env}, h.FunFrames B l → (∀ b, B.get? b = none → ∀ o, h.get? b = some o → B'.get? b = none ∧ h2.get? b = some o) → h2.FunFrames B' l
  | [], _, _ => True.intro
  | _ :: _, ⟨k, ⟨L, o, e1, e2, e3, e4⟩, r⟩, f => ⟨k, ⟨L, o, e1, (f L e2 o e3).1, (f L e2 o e3).2, e4⟩, ff_base r f⟩
/-- an error that leaves a comprehension's step is noted by the frame, the variables let go, passed on -/
theorem lc_raise {X : Cx} {W : WX} (tk : Takes X W) (hs : X.stack = X.env :: X.outer) (hf : X.env.frame = some X.env.locals) {pins : List (Addr × Obj)} {σ0 : L2.St} {H3 : Hp} {s3 : Shared} (I3 : Inv X pins σ0 H3 s3) {fp : List Addr} (hfp : ∀ b ∈ fp, FpOk X pins H3 b ∧ b < s3.heap.objs.size)
    {scope : Scope} {cl : List (Str × Addr)} {C : Addr} (hC : s3.heap.objs.size ≤ C) {E : XK} (hW : ∀ cls d H, E cls d H → W cls d σ0 H) {use : Option (Value → Sem Unit)} {Q : Value → Shared → Prop} {acc : Value}
    {pinsB : List (Addr × Obj)} {σ : L2.St} {H : Hp} {s : Shared} (Ib : Inv (X.blk s3 H3 scope (compEnvC scope cl C X.env) fp) pinsB σ H s) {e : Value} {s' : Shared} (c : CX X.prog X.w X.stack H s E e s') :
    notedBy (model X.prog X.w) X.A (compEnvC scope cl C X.env) (fun x s'' => cPost (model X.prog X.w) X.A X.xe use Q acc (compEnvC scope cl C X.env) (.error x) s'') e s' := by
  obtain ⟨a, B, H', cls, d, rfl, fl, hok, ub, na, os, ag, hE⟩ := c
  have HC : H C = none := Ib.free
  have nC : ¬ C ∈ frs X.stack := fun z => by
    obtain ⟨_, o, ho, _⟩ := Heap.FunFrames.mem Ib.ok.funs z
    exact absurd (Heap.lt_size ho) (Nat.not_lt.mpr hC)
  obtain ⟨m, ⟨o, es, ep, ho, hd, hsk, hfi⟩, _⟩ := Ib.loc
  have eB : B.get? C = some o := ub.keep C o ho HC nC
  have fr : ∀ {b}, b ∈ frs X.stack → B.get? b = none ∧ ∃ o, s'.heap.get? b = some o ∧ ∀ vs, o.data ≠ .fields vs := fun hb => Heap.FunFrames.mem fl.2.2.1 hb
  have fHC : H' C = none := ub.free C o ho HC
  unfold notedBy
  rw [noteFrame_eq (env := X.env) (cenv := compEnvC scope cl C X.env) rfl]
  have fl' := fl
  rw [hs] at fl'
  refine HandSPX.looks_onZ Zc.steady (by rw [I3.ok.frames, hs]) hf fl' fun h1 held up1 => ?_
  refine ⟨m, ⟨o, es, ep, held.1 C o eB, hd, hsk, hfi⟩, fun h2 m' hm' sb => ?_⟩
  rw [passOn_eq (env := X.env) (cenv := compEnvC scope cl C X.env) rfl]
  obtain ⟨st1, nb1, ff1, oe, vs, T, oT, ts, ha, hz, hvs, h1T, nT, neT, hT, hts, h3T⟩ := held
  have naC : a ≠ C := fun z => by
    rw [z, eB] at nb1
    cases nb1
  have nTC : T ≠ C := fun z => by
    rw [z, eB] at nT
    cases nT
  obtain ⟨B', b1, b2⟩ := L2.restrict B fun b => decide (b ≠ C)
  have bn : ∀ {b}, b ≠ C → B'.get? b = B.get? b := fun n => b1 _ (decide_eq_true n)
  have bC : B'.get? C = none := b2 _ (decide_eq_false fun z => z rfl)
  have bS : ∀ {b o}, B'.get? b = some o → b ≠ C ∧ B.get? b = some o := fun {b o} h => by
    by_cases n : b = C
    · rw [n, bC] at h
      cases h
    · exact ⟨n, by rw [← bn n]; exact h⟩
  have held2 : HandSPX.HeldZ B' (X.env :: X.outer) a (Zc cls d) X.env.locals h2 := by
    refine ⟨fun b o' h => ?_, by rw [bn naC]; exact nb1, ?_, oe, vs, T, oT, ts, by rw [sb.2 a naC]; exact ha, hz, hvs, h1T, by rw [bn nTC]; exact nT, neT, by rw [sb.2 T nTC]; exact hT, hts, h3T⟩
    · obtain ⟨n, h⟩ := bS h
      rw [sb.2 b n]
      exact st1 b o' h
    · refine ff_base ff1 fun b hb o' ho' => ?_
      have n : b ≠ C := fun z => by
        rw [z, eB] at hb
        cases hb
      exact ⟨by rw [bn n]; exact hb, by rw [sb.2 b n]; exact ho'⟩
  unfold PySem.passOn
  refine wpAny_bind (wpAny_field (o := oe) (vs := vs) (x := .ref T) (by show h2.get? a = _; rw [sb.2 a naC]; exact ha) hvs h1T ?_)
  have hne : (Value.ref T == Value.none) = false := rfl
  rw [hf]
  simp only [hne, Bool.false_eq_true, if_false]
  refine wpAny_bind (HandSPX.setFlight_onZ (s := { s' with heap := h2 }) held2 fun h3 held3 up3 => ?_)
  refine wpAny_throw ?_
  refine tk _ _ ?_
  have d1 : ∀ {b o}, b ≠ C → s'.heap.get? b = some o → (∀ vs, o.data ≠ .fields vs) → ∃ sl, h3.get? b = some { cls := o.cls, dict := o.dict, data := o.data, slots := sl } := fun {b o} n h1' nf => by
    obtain ⟨sl, e1⟩ := up1 b o h1' nf
    have e2 : h2.get? b = _ := (sb.2 b n).trans e1
    obtain ⟨sl2, e3⟩ := up3 b _ e2 nf
    exact ⟨sl2, e3⟩
  -- the heap as it is told
  obtain ⟨G, g1, g2⟩ := L2.restrict s'.heap fun b => (B.get? b).isSome || decide (b ∈ frs X.stack)
  have gB : ∀ b o, B.get? b = some o → G.get? b = some o := fun b o e => by
    rw [g1 b (by rw [e]; rfl)]
    exact fl.1 b o e
  have gF : ∀ b, b ∈ frs X.stack → G.get? b = s'.heap.get? b := fun b hb => g1 b (by rw [decide_eq_true hb, Bool.or_true])
  have bk := Ib.base
  have un : Un (frs X.stack) fp H3 H' s3.heap G := by
    refine ⟨fun b o e n h1 h2 => ?_, fun b o e n h1 h2 => ?_, fun b o e n h1 => ?_, fun b o e h1 => ?_, fun b xs e => ub.tups b xs (bk.tups b xs e), fun b o u e => ub.frzs b o u (bk.frzs b o u e), fun b ps e => ?_⟩
    · exact gB b o (ub.keep b o (bk.keep b o e n h1 h2) (bk.free b o e n h2) h1)
    · obtain ⟨sl, e1⟩ := bk.slot b o e n h1 h2
      obtain ⟨sl2, e2⟩ := ub.slot b _ e1 h1
      exact ⟨sl2, by rw [gF b h1]; exact e2⟩
    · obtain ⟨o', e'⟩ := bk.there b o e h1
      exact ub.free b o' e' (bk.free b o e n h1)
    · obtain ⟨o', e'⟩ := bk.there b o e h1
      by_cases hb : b ∈ frs X.stack
      · obtain ⟨sl, e2⟩ := ub.slot b o' e' hb
        exact ⟨_, by rw [gF b hb]; exact e2⟩
      · obtain ⟨o2, e2⟩ := ub.there b o' e' hb
        exact ⟨o2, gB b o2 e2⟩
    · obtain ⟨m1, q1⟩ := bk.tbls b ps e
      obtain ⟨m2, q2⟩ := ub.tbls b _ q1
      exact ⟨m1 ++ m2, by rw [← Array.append_assoc]; exact q2⟩
  have I4 : Inv X pins σ0 H' { heap := G, gens := s'.gens, drawn := s'.drawn, toks := s'.toks, os := s.os } := I3.call' Ib.os un (HOk.kept hok gB) ag fun b hb => by
    obtain ⟨_, q2, _, q4, q5, q6⟩ := (hfp b hb).1
    exact ⟨q4, q2, q5, q6⟩
  obtain ⟨_, q2, _, q4, q5, q6⟩ := I3.fpOk hC fHC
  obtain ⟨G2, k1, k2⟩ := L2.restrict G fun b => decide (b ≠ C)
  have kn : ∀ {b}, b ≠ C → G2.get? b = G.get? b := fun n => k1 _ (decide_eq_true n)
  have I5 := I4.turned (h' := G2) (t' := s'.toks) (it := C) (fun b o n e => by rw [kn n]; exact e) fHC q2 q4 q5 q6
  have og : ∀ {b o}, G2.get? b = some o → b ≠ C ∧ s'.heap.get? b = some o ∧ (¬ b ∈ frs X.stack → B'.get? b = some o) := fun {b o} e => by
    by_cases n : b = C
    · rw [n, k2 _ (decide_eq_false fun z => z rfl)] at e
      cases e
    · rw [kn n] at e
      cases q : (B.get? b).isSome || decide (b ∈ frs X.stack) with
      | false =>
        rw [g2 b q] at e
        cases e
      | true =>
        rw [g1 b q] at e
        refine ⟨n, e, fun nb => ?_⟩
        rw [decide_eq_false nb, Bool.or_false] at q
        obtain ⟨o', e'⟩ := Option.isSome_iff_exists.mp q
        have := (fl.1 b o' e').symm.trans e
        cases this
        rw [bn n]
        exact e'
  exact ⟨a, B', _, pins, σ0, H', cls, d, rfl, I5, fun b o e hb => (og e).2.2 hb, fun b o e nf => d1 (og e).1 (og e).2.1 nf, .inr (.inr (by rw [hs]; exact held3)), na, os, ag, hW cls d H' hE⟩
end Ov
/-! ### the rule for a comprehension that errors leave -/
namespace Ov
open PySem PySem.Spec PyProof.Rows L2
/-- the block of a comprehension, with its own way out -/
@[reducible] def blkX (X : Cx) (s : Shared) (H : Hp) (scope : Scope) (ce : Env) (fp : List Addr) (xe : Value → Shared → Prop) : Cx := { X.blk s H scope ce fp with xe := xe }
theorem inv_to {X : Cx} {s0 : Shared} {H0 : Hp} {scope : Scope} {ce : Env} {fp : List Addr} {xe : Value → Shared → Prop} {pins : List (Addr × Obj)} {σ : L2.St} {H : Hp} {s : Shared} (I : Inv (X.blk s0 H0 scope ce fp) pins σ H s) : Inv (blkX X s0 H0 scope ce fp xe) pins σ H s :=
  ⟨⟨I.ok.mod, I.ok.kind, I.ok.glob, I.ok.blt, I.ok.above, I.ok.inj, I.ok.has, I.ok.cab, I.ok.hd, I.ok.frames, I.ok.stk, I.ok.exf, I.ok.bs, I.ok.bsz, I.ok.noex, I.ok.exfs, I.ok.funs, I.ok.frf⟩, I.os, I.bare, I.base, I.loc, I.cell, I.free, I.freeC, I.pin, I.hok, I.len⟩
theorem inv_of {X : Cx} {s0 : Shared} {H0 : Hp} {scope : Scope} {ce : Env} {fp : List Addr} {xe : Value → Shared → Prop} {pins : List (Addr × Obj)} {σ : L2.St} {H : Hp} {s : Shared} (I : Inv (blkX X s0 H0 scope ce fp xe) pins σ H s) : Inv (X.blk s0 H0 scope ce fp) pins σ H s :=
  ⟨⟨I.ok.mod, I.ok.kind, I.ok.glob, I.ok.blt, I.ok.above, I.ok.inj, I.ok.has, I.ok.cab, I.ok.hd, I.ok.frames, I.ok.stk, I.ok.exf, I.ok.bs, I.ok.bsz, I.ok.noex, I.ok.exfs, I.ok.funs, I.ok.frf⟩, I.os, I.bare, I.base, I.loc, I.cell, I.free, I.freeC, I.pin, I.hok, I.len⟩
theorem lcX_loop {X : Cx} {W : WX} {E : XK} (tk : Takes X W) (hW : ∀ cls d σ H, E cls d H → W cls d σ H) (hs : X.stack = X.env :: X.outer) (hf : X.env.frame = some X.env.locals) {pins : List (Addr × Obj)} {s3 : Shared} {σ : L2.St} {H3 : Hp} {Q : VK} {elt tg iter : Expr} {scope : Scope} {own : List (Str × Nat)} {pos : Pos}
    {g : TG} {te : TE} {use : Option (Value → Sem Unit)} {Qf : Value → Shared → Prop} (hc : X.calm = true) (hN : X.N.Nodup) (I3 : Inv X pins σ H3 s3) (ok : BlkOk X.N X.env.scope scope own)
    (hg : ∀ s H C cl fp, PG (X.blk s H scope (compEnvC scope cl C X.env) fp) tg g)
    (he : ∀ s H C cl fp xe, Passes (L2.CX X.prog X.w) (blkX X s H scope (compEnvC scope cl C X.env) fp xe) E → PE (blkX X s H scope (compEnvC scope cl C X.env) fp xe) elt te)
    {it D : Addr} {fp : List Addr} {tn : Nat → Heap → Prop} {J : L2.It} (T : Turn X.prog X.w X.K tg J fp it tn) (f3 : ∀ b ∈ fp, FpOk X pins H3 b ∧ b < s3.heap.objs.size) (st3 : tn 0 s3.heap) {W0 : Nat → Nat → Hp → Prop} {m0 : Nat} (w0 : W0 0 m0 H3)
    (turn : ∀ i m H, W0 i m H → (J.stop i H ∧ Q (.ref D) H) ∨ (J.go i H ∧ ∃ Nx : Hp → Prop, (∀ H', Nx H' → ∃ m', m' < m ∧ W0 (i + 1) m' H') ∧ ∀ x H', J.yld i H x H' → g x (wipe σ (own.map (·.2))) H' fun σ2 H2 => wipe σ2 (own.map (·.2)) = wipe σ (own.map (·.2)) ∧ tYes σ2 H2 fun b H3 =>
      if b = true then te σ2 H3 fun y H4 => ∃ acc, H4 D = some (.lst acc) ∧ acc.length < sizeLine ∧ Nx (upd H4 D (.lst (acc ++ [y]))) else Nx H3))
    (hq : ∀ D C s' m H', Inv X pins σ H' s' → Q (.ref D) H' → s'.heap.Ns C m → FpOk X pins H' C → compPost (model X.prog X.w) X.A X.xe use Qf (.ref D) C (.ok .next) s') :
    codeAny (model X.prog X.w) X.A (.compStart (.ListComp elt [⟨tg, iter, [], 0⟩] scope pos) 0 (.ref it) (.ref D) (compEnvC scope (cellsFrom (s3.heap.objs.size + 1) scope.names (cloFrom X.env.cells scope.names [])) s3.heap.objs.size X.env))
      (cPost (model X.prog X.w) X.A X.xe use Qf (.ref D) (compEnvC scope (cellsFrom (s3.heap.objs.size + 1) scope.names (cloFrom X.env.cells scope.names [])) s3.heap.objs.size X.env))
      { heap := pushCells (s3.heap.push { cls := .type "dict", data := .dict #[] }) scope.names, gens := s3.gens, drawn := s3.drawn, toks := s3.toks, os := s3.os } := by
  have I4 := block_start I3 ok hN f3
  have st4 := T.keep 0 s3.heap (pushCells (s3.heap.push { cls := .type "dict", data := .dict #[] }) scope.names) st3 fun b _ o e => pushCells_keeps _ _ b o (Heap.get?_push_of_some _ e)
  generalize cellsFrom (s3.heap.objs.size + 1) scope.names (cloFrom X.env.cells scope.names []) = cl at I4 ⊢
  have fpb : ∀ {H' : Hp}, (∀ b ∈ fp, H' b = none) → ∀ b ∈ fp, FpOk (X.blk s3 H3 scope (compEnvC scope cl s3.heap.objs.size X.env) fp) [] H' b := fun nf b hb => by
    have z := I4.ok.exf b hb
    exact ⟨nf b hb, z.1, I4.ok.exfs b hb, .inl hb, z.2, fun p hp => nomatch hp⟩
  refine (fun L => codeAny_compStart_list L (T.self X.A 0 _ _ _ st4 L)) ?_
  refine compLoop_any (fun n sN => ∃ i H, W0 i n H ∧ Inv (X.blk s3 H3 scope (compEnvC scope cl s3.heap.objs.size X.env) fp) [] (wipe σ (own.map (·.2))) H sN ∧ tn i sN.heap ∧ ∀ b ∈ fp, H b = none) ?_ m0 ⟨0, H3, w0, I4, st4, fun b hb => (f3 b hb).1.1⟩
  rintro n sN ⟨i, Hn, wn, In, tni, nfp⟩
  rcases turn i n Hn wn with ⟨hstop, hQ⟩ | ⟨hgo, Nx, hNx, hturn⟩
  · refine thn (T.done (X.blk s3 H3 scope (compEnvC scope cl s3.heap.objs.size X.env) fp) rfl rfl rfl hc i [] sN _ Hn _ In (fpb nfp) tni hstop) fun r s1 z => ?_
    obtain ⟨rfl, I1⟩ := z
    obtain ⟨m, hm, _⟩ := I1.loc
    have IX : Inv X pins σ Hn s1 := I3.call' I1.os I1.base I1.hok I1.bare fun b hb => by
      obtain ⟨_, q2, _, q4, q5, q6⟩ := (f3 b hb).1
      exact ⟨q4, q2, q5, q6⟩
    exact hq D _ s1 m Hn IX hQ hm (I3.fpOk (Nat.le_refl _) I1.free)
  · refine thn (T.item (X.blk s3 H3 scope (compEnvC scope cl s3.heap.objs.size X.env) fp) rfl rfl rfl hc i [] sN _ Hn _ In (fpb nfp) tni hgo) fun r s1 z => ?_
    obtain ⟨u, rfl, z⟩ := z
    refine thn z fun _ s2 z => ?_
    obtain ⟨x, H', I2, rx, hy, tn2, nf2⟩ := z
    have Ip := I2.pinned (fpb nf2) fun b hb => T.obj (i + 1) s2.heap tn2 b hb
    refine thnF ((hg s3 H3 s3.heap.objs.size cl fp).run _ s2 _ H' x u _ Ip rx (hturn x H' hy)) fun _ s4 z => ?_
    obtain ⟨σ4, H4, I5, hw, hy2⟩ := z
    refine wpAny_pure ?_
    refine thn ((he s3 H3 s3.heap.objs.size cl fp _ fun pinsB σB HB sB e s' IB c => lc_raise tk hs hf I3 f3 (Nat.le_refl _) (fun cls d H h => hW cls d σ H h) (inv_of IB) c).run _ s4 σ4 H4 _ (inv_to I5) hy2) fun v s5 z => ?_
    obtain ⟨y, H5, I6, ry, acc, eD, hacc, hn⟩ := z
    refine app_ok (X := X.blk s3 H3 scope (compEnvC scope cl s3.heap.objs.size X.env) fp) (inv_of I6) eD hacc ry fun s6 I7 => ?_
    obtain ⟨m', lt, hw'⟩ := hNx _ hn
    have hp : ∀ b ∈ fp, ∀ o, s2.heap.get? b = some o → s6.heap.get? b = some o ∧ (upd H5 D (.lst (acc ++ [y]))) b = none := fun b hb o e => by
      have z := I7.pin (b, o) (List.mem_append_right _ (List.mem_append_right _ (mem_pinsAt hb e)))
      exact ⟨z.1, z.2.1⟩
    refine ⟨m', lt, i + 1, _, hw', (I7.unpinned (pins := []) (pl := pinsAt fp s2.heap)).weak (by rw [wipe_length, I7.len, ← I3.len]) fun j v e => ?_, T.keep (i + 1) s2.heap s6.heap tn2 fun b hb o e => (hp b hb o e).1, fun b hb => ?_⟩
    · rw [← hw] at e
      exact (wipe_some e).1
    · obtain ⟨o, e, _⟩ := T.obj (i + 1) s2.heap tn2 b hb
      exact (hp b hb o e).2
theorem lcX_core {X : Cx} {W : WX} {E : XK} (tk : Takes X W) (hW : ∀ cls d σ H, E cls d H → W cls d σ H) (hs : X.stack = X.env :: X.outer) (hf : X.env.frame = some X.env.locals) {pins : List (Addr × Obj)} {s : Shared} {σ : L2.St} {H : Hp} {Q : VK} {elt tg iter : Expr} {scope : Scope} {own : List (Str × Nat)} {pos pos' : Pos}
    {wi : TI} {g : TG} {te : TE} {use : Option (Value → Sem Unit)} {Qf : Value → Shared → Prop} (hc : X.calm = true) (hN : X.N.Nodup) (I : Inv X pins σ H s) (hi : PI X tg iter wi) (ok : BlkOk X.N X.env.scope scope own)
    (hg : ∀ s H C cl fp, PG (X.blk s H scope (compEnvC scope cl C X.env) fp) tg g)
    (he : ∀ s H C cl fp xe, Passes (L2.CX X.prog X.w) (blkX X s H scope (compEnvC scope cl C X.env) fp xe) E → PE (blkX X s H scope (compEnvC scope cl C X.env) fp xe) elt te)
    (hfold : ∀ x, foldedSetIterable iter X.env x = pure x) (h : tLc wi g tYes te (own.map (·.2)) σ H Q)
    (hq : ∀ D C s' m H', Inv X pins σ H' s' → Q (.ref D) H' → s'.heap.Ns C m → FpOk X pins H' C → compPost (model X.prog X.w) X.A X.xe use Qf (.ref D) C (.ok .next) s') :
    wpAny (model X.prog X.w) X.A (comprehension (.ListComp elt [⟨tg, iter, [], 0⟩] scope pos) scope X.env pos' (newList []) false (eval iter X.env) use) Qf X.xe s := by
  refine comp_exc (g := ⟨tg, iter, [], 0⟩) (gs := []) rfl hfold (closure_ok fun y hy e => I.ok.has y.1 (ok.free y hy e)) ok.kind (fun x hx e => by
    have z := ok.uniq x hx
    rw [e] at z
    exact z) ?_
  refine thn (hi.run pins s σ H _ I h) fun xv s1 hx => thn hx fun itv s2 h2 => ?_
  obtain ⟨it, fp, tn, J, H2, rfl, I2, T, st2, f2, q⟩ := h2
  unfold newList
  refine wpAny_newObj_type (newEnv_comp ?_)
  have hDn := HOk.fresh I2.hok (Nat.le_refl s2.heap.objs.size)
  obtain ⟨W0, ⟨m0, w0⟩, turn⟩ := q s2.heap.objs.size hDn
  have I3 : Inv X pins σ (upd H2 s2.heap.objs.size (.lst [])) { heap := s2.heap.push { cls := .type "list", dict := none, data := .seq (List.toArray []) }, gens := s2.gens, drawn := s2.drawn, toks := s2.toks, os := s2.os } :=
    I2.laid (fun b o e => Heap.get?_push_of_some _ e) (Nat.le_refl _) ⟨Nat.zero_le _, [], 0, .nil, Heap.get?_push_size _ rfl⟩
  have f3 : ∀ b ∈ fp, FpOk X pins (upd H2 s2.heap.objs.size (.lst [])) b ∧ b < (s2.heap.push { cls := .type "list", dict := none, data := .seq (List.toArray []) }).objs.size := fun b hb => by
    obtain ⟨o, e, _⟩ := T.obj 0 s2.heap st2 b hb
    have lt := Heap.lt_size e
    obtain ⟨z1, z2⟩ := f2 b hb
    refine ⟨⟨?_, z2⟩, ?_⟩
    · rw [upd_ne (Nat.ne_of_lt lt)]
      exact z1
    · rw [Heap.size_push]
      exact Nat.lt_succ_of_lt lt
  have st3 := T.keep 0 s2.heap (s2.heap.push { cls := .type "list", dict := none, data := .seq (List.toArray []) }) st2 fun b _ o e => Heap.get?_push_of_some _ e
  have L := lcX_loop (use := use) (Qf := Qf) (elt := elt) (iter := iter) (pos := pos) tk hW hs hf hc hN I3 ok hg he T f3 st3 w0 turn hq
  exact L
/-- y = [e for x in xs], where e may raise -/
theorem ps_setLcX {X : Cx} {W : WX} {E : XK} {i : Nat} {y : Str} {py : Pos} {elt tg iter : Expr} {scope : Scope} {own : List (Str × Nat)} {pos spos : Pos} {wi : TI} {g : TG} {te : TE} (tk : Takes X W) (hW : ∀ cls d σ H, E cls d H → W cls d σ H) (hs : X.stack = X.env :: X.outer) (hf : X.env.frame = some X.env.locals)
    (hc : X.calm = true) (hN : X.N.Nodup) (hy : X.N[i]? = some y) (hyl : List.lookup y X.env.scope.names = some .local) (hsw : swapsWith (.ListComp elt [⟨tg, iter, [], 0⟩] scope pos) (some (.Name y py)) spos.line X.env = pure true) (hi : PI X tg iter wi) (ok : BlkOk X.N X.env.scope scope own)
    (hg : ∀ s H C cl fp, PG (X.blk s H scope (compEnvC scope cl C X.env) fp) tg g)
    (he : ∀ s H C cl fp xe, Passes (L2.CX X.prog X.w) (blkX X s H scope (compEnvC scope cl C X.env) fp xe) E → PE (blkX X s H scope (compEnvC scope cl C X.env) fp xe) elt te)
    (hfold : ∀ x, foldedSetIterable iter X.env x = pure x := by intro _; rfl) :
    PS X (.Assign [.Name y py] (.ListComp elt [⟨tg, iter, [], 0⟩] scope pos) spos) (tAsg (tLc wi g tYes te (own.map (·.2))) (gName i)) := by
  refine ⟨fun pins s σ H D I h => ?_⟩
  rw [exec_Assign_Name_used y py _ spos hsw]
  refine wpAny_bind (wpAny_standAt (wpAny_bind ?_))
  refine wpAny_bind (thn (lcX_core tk hW hs hf hc hN I hi ok hg he hfold h fun L C s' m H' I' q hn f => ?_) fun x s' hq => wpAny_pure (wpAny_pure hq))
  refine wpAny_assign_Name (store_ok2 (v := .ref L) I' hN hy (Or.inl hyl) (show RelV (.ref L) (Value.ref L) from rfl) (fun s2 I2 x => ?_) (Or.inr hyl))
  obtain ⟨a, sb, ha⟩ := x
  obtain ⟨f0, f1, f2, f3, f4, f5⟩ := f
  have haC : C ≠ a := by
    rcases ha with rfl | z
    · exact f1
    · exact fun e => f4 y a z e.symm
  exact ⟨m, hn.sameBut sb haC, fun h3 sb3 => ⟨σ.set i (some (.ref L)), H', I2.turned (fun b o hb e => (sb3.2 b hb).trans e) f0 f1 f3 f4 f5, q⟩⟩
end Ov
/-! ### a method's call within a try -/
namespace Ov
open PySem PySem.Spec PyProof.Rows L2
theorem ps_fldK {X : Cx} {K : PySem.W.Frag} {o value : Expr} {f : Str} {pos pos' : Pos} {ta tv : TE} (hK : X.K = K) (ho : PE X o ta) (hv : PE X value tv) (hs : swapsWith value (some (o.Attribute f pos')) pos.line X.env = pure false) : PS X (.Assign [o.Attribute f pos'] value pos) (sFld K ta tv f) := by
  subst hK
  exact ps_fld ho hv hs
theorem pe_methAt {X : Cx} {CX : CXT} {k : Nat} {f C : Addr} {fd : FuncData} {ps : List Str} {sp : Sp} {E : L2.St → XK} {m : Str} {pos apos : Pos} {e o : Expr} {es : List Expr} {ta : TE} {t : TA} {pl : Sem Bool} (he : PE X o ta) (c : Cls X.K C) (hm : Meth X.K C m f) (F : FnOk X.prog X.w X.K X.mg X.base CX k f fd ps sp) (hr : Room k X.A)
    (hb : Binds X.K fd ps []) (hx : ∀ σ, PassesAt CX X σ (E σ)) (ha : L2.PA X (e :: es) t) (hst : starEach (e :: es) X.env = (false, eval e X.env) :: starEach es X.env := by rfl) (hpl : ((backTo pos (starEach es X.env)).any fun x => x.1) = false := by rfl)
    (ht : eval ((o.Attribute m apos).Call (e :: es) [] pos) X.env = (do
      let ov ← eval o X.env
      standAt apos.atName
      let (f, first) ← holding [ov] (getMethod ov m pl)
      callWith pos f first (backTo pos (starEach (e :: es) X.env)) (backToKw pos (keywordEach [] X.env))) := by rfl) :
    PE X ((o.Attribute m apos).Call (e :: es) [] pos) (fun σ H Q => tMeth C m sp [] (E σ) ta t σ H Q) := by
  refine ⟨fun pins s σ H Q I h => W.methodCall_KW (thn (he.run pins s σ H _ I h) fun u s1 x => ?_) ht⟩
  obtain ⟨x1, H1, I1, rx, a, dx, fs, rfl, ea, l, q⟩ := x
  obtain rfl : u = Value.ref a := rx
  refine getmeth_ok I1 ea c hm l (W.callWith_K I.ok.mod.kin hm.kp (thn (ha.run pos pins s1 σ H1 _ I1 q) fun us s2 x => ?_) hst hpl)
  obtain ⟨vs, H2, I2, r, q2⟩ := x
  exact ⟨Inv.kIn I2, run_fnS F hr hb (hx σ) I2 (.cons (show RelV (.ref a) (Value.ref a) from rfl) r) (by simpa using q2)⟩
end Ov

/-! ### the program's runs -/
namespace Ov
open PySem PySem.Spec PyProof.Rows L2
/-- u is the i-th word, and what is within it -/
def SubAt (rows : List (Op × Int × List Nat)) (i : Nat) (u : W) : Prop := ∃ pre post, rows = pre ++ u.rows i ++ post ∧ pre.length = i
theorem SubAt.all (w : W) : SubAt (w.rows 0) 0 w := ⟨[], [], by simp, rfl⟩
theorem SubAt.row {rows : List (Op × Int × List Nat)} {i : Nat} {o : Op} {g : Int} {as : List W} (h : SubAt rows i (.mk o g as)) : rows[i]? = some (o, g, starts (i + 1) as) := by
  obtain ⟨pre, post, rfl, rfl⟩ := h
  rw [List.append_assoc, List.getElem?_append_right (Nat.le_refl _), Nat.sub_self, W.rows_mk]
  rfl
theorem rowss_get : ∀ (ws : List W) (b j : Nat) (a : W), ws[j]? = some a → (starts b ws)[j]? = some (b + W.sizes (ws.take j)) ∧ ∃ pre post, W.rowss b ws = pre ++ a.rows (b + W.sizes (ws.take j)) ++ post ∧ pre.length = W.sizes (ws.take j)
  | [], _, _, _, h => by simp at h
  | x :: r, b, 0, a, h => by
    obtain rfl : x = a := Option.some.inj h
    refine ⟨by rw [List.take_zero, W.sizes]; rfl, [], W.rowss (b + x.size) r, ?_, by rw [List.take_zero, W.sizes]; rfl⟩
    rw [List.take_zero, W.sizes, W.rowss]
    rfl
  | x :: r, b, j + 1, a, h => by
    obtain ⟨h1, pre, post, h2, h3⟩ := rowss_get r (b + x.size) j a h
    rw [List.take_succ_cons, W.sizes, ← Nat.add_assoc]
    refine ⟨h1, x.rows b ++ pre, post, ?_, by rw [List.length_append, W.rows_len, h3]⟩
    rw [W.rowss, h2]
    simp
theorem SubAt.arm {rows : List (Op × Int × List Nat)} {i : Nat} {o : Op} {g : Int} {as : List W} (h : SubAt rows i (.mk o g as)) {j : Nat} {a : W} (ha : as[j]? = some a) : ∃ k, (starts (i + 1) as)[j]? = some k ∧ SubAt rows k a := by
  obtain ⟨pre, post, rfl, rfl⟩ := h
  obtain ⟨h1, p2, q2, h2, h3⟩ := rowss_get as (pre.length + 1) j a ha
  refine ⟨_, h1, pre ++ [(o, g, starts (pre.length + 1) as)] ++ p2, q2 ++ post, ?_, by simp [h3]; omega⟩
  rw [W.rows_mk, h2]
  simp
/-- an answer of the program: what it comes to, or a fault -/
def AnsP (K : PySem.W.Frag) (x : PA) (pr : List (Int × W)) (told : V) (oth : Int) (H : Hp) (Q : VK) (E : XK) (r : Res) : Prop := match r with
  | .ok b s => ∀ H' y, ButP x H H' → RunAt K H' x pr told s oth → PV H' y b → Q y H'
  | .bad f s => ∀ H' d oth', ButP x H H' → RunAt K H' x pr told s oth' → H' d = some (.xd [("word", .str f.name)]) → E (.ref (He.ga K "Fault")) (some d) H'
theorem ButP.refl {x : PA} {H : Hp} : ButP x H H := fun _ _ _ _ _ e => e
theorem ButP.trans {x : PA} {H H1 H2 : Hp} (p : ButP x H H1) (q : ButP x H1 H2) : ButP x H H2 := fun b o n1 n2 n3 e => q b o n1 n2 n3 (p b o n1 n2 n3 e)
theorem ButP.same {x : PA} {H H' : Hp} (s : Same H H') : ButP x H H' := fun b o _ _ _ e => s b o e
theorem RunAt.keep {K : PySem.W.Frag} {H H' : Hp} {x : PA} {pr : List (Int × W)} {told : V} {s : RS} {oth : Int} (h : RunAt K H x pr told s oth) (b : ButP x H H') : Keep H H' := fun a xs e => b a _ (ne_of e h.ob (by intro z; cases z)) (ne_of e h.sa (by intro z; cases z)) (ne_of e h.ro (by intro z; cases z)) e
theorem AnsP.but {K : PySem.W.Frag} {x : PA} {pr : List (Int × W)} {told : V} {oth : Int} {H H1 : Hp} {Q : VK} {E : XK} (b : ButP x H H1) : ∀ {r : Res}, AnsP K x pr told oth H Q E r → AnsP K x pr told oth H1 Q E r
  | .ok _ _, h => fun H' y b' => h H' y (b.trans b')
  | .bad _ _, h => fun H' d oth' b' => h H' d oth' (b.trans b')
theorem RunAt.same {K : PySem.W.Frag} {H H' : Hp} {x : PA} {pr : List (Int × W)} {told : V} {s : RS} {oth : Int} (h : RunAt K H x pr told s oth) (e : Same H H') : RunAt K H' x pr told s oth := by
  obtain ⟨h1, ⟨bs, h2, h3, h4⟩, h5, h6, n⟩ := h
  exact ⟨e _ _ h1, ⟨bs, e _ _ h2, L2.Paired.mapP h3 fun _ _ z => z.same e, h4⟩, e _ _ h5, e _ _ h6, n⟩
/-- a fault that is told here -/
theorem AnsP.out {K : PySem.W.Frag} {x : PA} {pr : List (Int × W)} {told : V} {oth oth' : Int} {H H1 : Hp} {Q : VK} {E : XK} {f : Flt} {s : RS} (h : AnsP K x pr told oth H Q E (.bad f s)) (b : ButP x H H1) (r : RunAt K H1 x pr told s oth') : Out K H1 E f.name := fun H' d s' _ e => h H' d oth' (b.trans (ButP.same s')) (r.same s') e
/-- the object's two numbers are written -/
theorem runFs_calls {x : PA} {told : V} {c d : Int} {oth : Int} : putF "calls" (.int d) (runFs x told c oth) = runFs x told d oth := by rfl
theorem runFs_others {x : PA} {told : V} {c : Int} {o1 o2 : Int} : putF "others" (.int o2) (runFs x told c o1) = runFs x told c o2 := by rfl
theorem runFs_told {x : PA} {t1 t2 : V} {c : Int} {o : Int} : putF "told" t2 (runFs x t1 c o) = runFs x t2 c o := by rfl
theorem RunAt.wr {K : PySem.W.Frag} {H : Hp} {x : PA} {pr : List (Int × W)} {told told' : V} {s : RS} {oth oth' : Int} {c : Nat} (h : RunAt K H x pr told s oth) : RunAt K (upd H x.a (.ins (He.ga K "Run") x.dx (runFs x told' (c : Int) oth'))) x pr told' { s with calls := c } oth' ∧ ButP x H (upd H x.a (.ins (He.ga K "Run") x.dx (runFs x told' (c : Int) oth'))) := by
  obtain ⟨h1, ⟨bs, h2, h3, h4⟩, h5, h6, n⟩ := h
  have ne : ∀ {b : Addr} {l : List V}, H b = some (.lst l) → b ≠ x.a := fun e => ne_of e h1 (by intro z; cases z)
  have kt : Keep H (upd H x.a (.ins (He.ga K "Run") x.dx (runFs x told' (c : Int) oth'))) := fun b xs e => by
    rw [upd_ne (ne_of e h1 (by intro z; cases z))]
    exact e
  refine ⟨⟨upd_same, ⟨bs, by rw [upd_ne (ne h2)]; exact h2, L2.Paired.mapP h3 fun b f z => ?_, h4⟩, by rw [upd_ne (ne h5)]; exact h5, by rw [upd_ne (ne h6)]; exact h6, n⟩, fun b o n1 _ _ e => by rw [upd_ne n1]; exact e⟩
  obtain ⟨ys, z1, z2⟩ := z
  exact ⟨ys, by rw [upd_ne (ne z1)]; exact z1, L2.Paired.mapP z2 fun _ _ y => y.keep kt⟩
def spEnter (K : PySem.W.Frag) : Sp := fun vs H Q _ => ∃ (x : PA) (pr : List (Int × W)) (told v : V) (s : RS) (oth : Int) (f : Nat), vs = [.ref x.a, v, .int (f : Int)] ∧ RunAt K H x pr told s oth ∧ s.row.length ≤ most ∧ ∀ H', ButP x H H' → RunAt K H' x pr told { s with row := s.row ++ [f] } oth → Q .non H'
def spBack (K : PySem.W.Frag) : Sp := fun vs H Q _ => ∃ (x : PA) (pr : List (Int × W)) (told : V) (s : RS) (oth : Int) (p : Addr) (f w : Nat), vs = [.ref x.a, .ref p] ∧ H p = some (.tup [.int (f : Int), .int (w : Int)]) ∧ RunAt K H x pr told s oth ∧ s.row.length ≤ most ∧ ∀ H', ButP x H H' → RunAt K H' x pr told { s with row := s.row ++ [f] } oth → Q .non H'
def spCallP (K : PySem.W.Frag) (pr : List (Int × W)) (n : Nat) : Sp := fun vs H Q E => ∃ (x : PA) (told v : V) (s : RS) (oth : Int) (p : Addr) (c wi f : Nat) (a : Wt), vs = [.ref x.a, .ref p, .int (f : Int), v] ∧ H p = some (.tup [.int (c : Int), .int (wi : Int)]) ∧ RunAt K H x pr told s oth ∧ PrOk pr ∧ c < pr.length ∧ f < pr.length ∧ PV H v a ∧ WtOk pr.length a ∧ s.phi ≤ most ∧ oth + (n : Int) = 12 ∧ AnsP K x pr told oth H Q E (evC pr n c f a s)
def spWorth (K : PySem.W.Frag) (pr : List (Int × W)) (n d : Nat) : Sp := fun vs H Q E => ∃ (x : PA) (told v : V) (s : RS) (oth : Int) (f wi : Nat) (p : Int × W) (u : W) (a : Wt), vs = [.ref x.a, .int (f : Int), .int (wi : Int), v] ∧ RunAt K H x pr told s oth ∧ PrOk pr ∧ pr[f]? = some p ∧ SubAt (p.2.rows 0) wi u ∧ WOk pr.length d u ∧ PV H v a ∧ WtOk pr.length a ∧ s.phi + u.size ≤ most ∧ oth + (n : Int) = 12 ∧ AnsP K x pr told oth H Q E (evB (evC pr n f) a d u s)
end Ov
namespace Ov
open PySem PySem.Spec PyProof.Rows L2
theorem RunAt.fresh {K : PySem.W.Frag} {H0 H : Hp} {x : PA} {pr : List (Int × W)} {told told0 : V} {s s0 : RS} {oth oth0 : Int} {D : Addr} {us us' : List V} (h0 : RunAt K H0 x pr told0 s0 oth0) (hD : H0 D = none) (b : ButP x H0 H) (h : RunAt K H x pr told s oth) (e : H D = some (.lst us)) : RunAt K (upd H D (.lst us')) x pr told s oth := by
  have kt := Keep.updL (ys := us') e
  obtain ⟨bs0, g2, g3, g4⟩ := h0.bo
  obtain ⟨h1, ⟨bs, h2, h3, h4⟩, h5, h6, n1, n2, n3⟩ := h
  have ne : ∀ {b : Addr} {o : HO}, H0 b = some o → b ≠ D := fun e => ne_of_none e hD
  have nbo : x.bo ≠ x.a := ne_of g2 h0.ob (by intro z; cases z)
  have e2 := b _ _ nbo n1 n2 g2
  have eq : bs = bs0 := by
    have z := h2.symm.trans e2
    have z2 : bs.map V.ref = bs0.map V.ref := by
      injection z with z
      injection z
    exact List.map_inj_right (fun _ _ q => by injection q) |>.mp z2
  subst eq
  refine ⟨by rw [upd_ne (ne h0.ob)]; exact h1, ⟨bs, by rw [upd_ne (ne g2)]; exact h2, PairedMem.map h3 fun b f hb z => ?_, h4⟩, by rw [upd_ne (ne h0.sa)]; exact h5, by rw [upd_ne (ne h0.ro)]; exact h6, n1, n2, n3⟩
  obtain ⟨f0, ys0, z0, _⟩ := PairedMem.left g3 b hb
  obtain ⟨ys, z1, z2⟩ := z
  exact ⟨ys, by rw [upd_ne (ne z0)]; exact z1, L2.Paired.mapP z2 fun _ _ y => y.keep kt⟩
theorem ButP.updn {x : PA} {H H' : Hp} {D : Addr} {o : HO} (b : ButP x H H') (hD : H D = none) : ButP x H (upd H' D o) := fun c u n1 n2 n3 e => by
  rw [upd_ne (ne_of_none e hD)]
  exact b c u n1 n2 n3 e
theorem drop_get {α : Type} {l : List α} {i : Nat} {a : α} (h : l[i]? = some a) : l.drop i = a :: l.drop (i + 1) := by
  obtain ⟨lt, e⟩ := List.getElem?_eq_some_iff.mp h
  rw [List.drop_eq_getElem_cons lt, e]
theorem paired_two {α β : Type} {R : α → β → Prop} {us : List α} {vs : List β} (h : Paired R us vs) (l : vs.length = 2) : ∃ x y u v, us = [x, y] ∧ vs = [u, v] ∧ R x u ∧ R y v := by
  obtain ⟨x, y, a, b, h1, h2, h3, h4⟩ := two_of h l
  exact ⟨x, y, a, b, h1, h2, h3, h4⟩
end Ov
namespace Ov
open PySem PySem.Spec PyProof.Rows L2
def spBegin (K : PySem.W.Frag) : Sp := fun vs H Q _ => ∃ (x : PA) (pr : List (Int × W)) (z : Int), vs = [.ref x.a, .int z] ∧ RunAt K H x pr .non ⟨[], 0, [], [], []⟩ 0 ∧ PrOk pr ∧ 0 ≤ z ∧ z < 1000 ∧
  ∀ H' t oth, ButP x H H' → RunAt K H' x pr (.ref t) (evR pr z).st oth → H' t = some (.tup [.str (endD (evR pr z)).1, (endD (evR pr z)).2]) → Q .non H'
end Ov
namespace Ov
open PySem PySem.Spec PyProof.Rows L2
def spCheckNumber : Sp := fun vs H Q _ => ∃ z : Int, vs = [.int z] ∧ 0 ≤ z ∧ z < 1000 ∧ Q .non H
def spPlainRun (K : PySem.W.Frag) : Sp := fun vs H Q _ => ∃ (v : V) (pr : List (Int × W)) (z : Int), vs = [v, .int z] ∧ PrAt H v pr ∧ PrOk pr ∧ 0 ≤ z ∧ z < 1000 ∧
  ∀ H' x t oth, Same H H' → H x.sa = none → H x.ro = none → RunAt K H' x pr (.ref t) (evR pr z).st oth → H' t = some (.tup [.str (endD (evR pr z)).1, (endD (evR pr z)).2]) → Q (.ref x.a) H'
def spRunTold : Sp := fun vs H Q _ => ∃ (v : V) (pr : List (Int × W)) (z : Int), vs = [v, .int z] ∧ PrAt H v pr ∧ PrOk pr ∧ 0 ≤ z ∧ z < 1000 ∧
  ∀ H' r t sa, Same H H' → H sa = none → H' r = some (.tup [.ref t, .ref sa]) → H' t = some (.tup [.str (endD (evR pr z)).1, (endD (evR pr z)).2]) → H' sa = some (.lst ((evR pr z).st.said.map V.int)) → Q (.ref r) H'
def spTraced : Sp := fun vs H Q _ => ∃ (v : V) (pr : List (Int × W)) (z : Int), vs = [v, .int z] ∧ PrAt H v pr ∧ PrOk pr ∧ 0 ≤ z ∧ z < 1000 ∧
  ∀ H' ro, Same H H' → H ro = none → H' ro = some (.lst (nV (evR pr z).st.row)) → Q (.ref ro) H'
/-! ### refused -/
end Ov

/-! ### the law's own hall (k05, k14): a dict of the program, the tree, what is laid, the cells, how many were brought -/
namespace Ov
open PySem PySem.Spec PyProof.Rows L2
section
variable {H0 H H' : Hp} {a fl ca : Addr} {pv tv : V} {pr : List (Int × W)} {ps : List (List Nat)} {dn : Nat → List Nat} {us : List V} {n : Int}
end
/-! ### looks cell by cell -/
theorem paired_take {α β : Type} {R : α → β → Prop} : ∀ {l : List α} {m : List β}, Paired R l m → ∀ k, Paired R (l.take k) (m.take k)
  | _, _, _, 0 => by rw [List.take_zero, List.take_zero]; exact .nil
  | _, _, .nil, _ + 1 => .nil
  | _, _, .cons h r, k + 1 => .cons h (paired_take r k)
section
variable {H0 H H' : Hp} {a fl ca : Addr} {pv tv : V} {pr : List (Int × W)} {ps : List (List Nat)} {st : List Int} {dn : Nat → List Nat} {cs : List Int} {lc : List (Option Cnt)} {n : Int} {far : Nat}
end
end Ov
namespace Ov
open PySem PySem.Spec PyProof.Rows L2
theorem Paired.app {α β : Type} {R : α → β → Prop} : ∀ {a : List α} {b : List β} {c : List α} {d : List β}, Paired R a b → Paired R c d → Paired R (a ++ c) (b ++ d)
  | _, _, _, _, .nil, h => h
  | _, _, _, _, .cons x r, h => .cons x (Paired.app r h)
end Ov

/-! ### an object made in a lambda, where its __init__ raises -/
namespace Ov
open PySem PySem.Spec PyProof.Rows L2
section
variable {X : Cx} {CX : CXT} {k : Nat} {f C : Addr} {fd : FuncData} {ps : List Str} {sp : Sp} {E : L2.St → XK} {x : Str} {p pos : Pos} {e : Expr} {es : List Expr} {t : TA}
end
/-! ### what stays of a hall when another's places change -/
section
variable {K : PySem.W.Frag} {H0 H H' : Hp} {x : HA} {wys : List (List Nat)} {L : List Lay} {lc : List (Option Cnt)} {mv : Int} {far : Nat}
theorem HallAt.keepN (h : HallAt K H0 H x wys L lc mv) (k : ∀ b o, H0 b = none → H b = some o → (∀ ps, o ≠ .tbl ps) → H' b = some o) (kt : Keep H H') : HallAt K H0 H' x wys L lc mv := by
  obtain ⟨h1, ⟨ws, h2, h3⟩, ⟨ls, h4, h5⟩, ⟨vs, h6, h7⟩, f1, f2, f3, f4⟩ := h
  have kl : ∀ b xs, H0 b = none → H b = some (.lst xs) → H' b = some (.lst xs) := fun b xs n e => k b _ n e (fun _ z => by cases z)
  exact ⟨k _ _ f1 h1 (fun _ z => by cases z), ⟨ws, kl _ _ f2.1 h2, L2.Paired.mapP h3 fun b w z => ⟨kl _ _ z.2.1 z.1, z.2⟩⟩, ⟨ls, kl _ _ f3.1 h4, L2.Paired.mapP h5 fun b l z => by
    obtain ⟨⟨us, z1, z2⟩, z3⟩ := z
    exact ⟨⟨us, kl _ _ z3.1 z1, L2.Paired.mapP z2 fun _ _ y => y.keep kt⟩, z3⟩⟩, ⟨vs, kl _ _ f4 h6, L2.Paired.mapP h7 fun _ _ y => y.keep kt⟩, f1, f2, f3, f4⟩
theorem HallIn.keepN (i : HallIn K H0 H x wys L lc mv far) (k : ∀ b o, H0 b = none → H b = some o → (∀ ps, o ≠ .tbl ps) → H' b = some o) (kt : Keep H H') : HallIn K H0 H' x wys L lc mv far := ⟨i.at_.keepN k kt, i.ok, i.le⟩
theorem HallAt.mark {p : Addr} {o : HO} (h : HallAt K H0 H x wys L lc mv) (hp : H p = none) : HallAt K (upd H0 p o) H x wys L lc mv := by
  obtain ⟨h1, ⟨ws, h2, h3⟩, ⟨ls, h4, h5⟩, ⟨vs, h6, h7⟩, f1, f2, f3, f4⟩ := h
  have ne : ∀ {b : Addr} {u : HO}, H b = some u → H0 b = none → (upd H0 p o) b = none := fun e n => by rw [upd_ne (ne_of_none e hp)]; exact n
  exact ⟨h1, ⟨ws, h2, L2.Paired.mapP h3 fun b w z => ⟨z.1, ne z.1 z.2.1, z.2.2⟩⟩, ⟨ls, h4, L2.Paired.mapP h5 fun b l z => by
    obtain ⟨⟨us, z1, z2⟩, z3⟩ := z
    exact ⟨⟨us, z1, z2⟩, ne z1 z3.1, z3.2⟩⟩, ⟨vs, h6, h7⟩, ne h1 f1, ⟨ne h2 f2.1, f2.2⟩, ⟨ne h4 f3.1, f3.2⟩, ne h6 f4⟩
end
/-! ### places that change: all else stays -/
/-! ### a side: a hall, and the law's own -/
structure Sd where
  x : HA
  a : Addr
  fl : Addr
  ca : Addr
  pv : V
  tv : V
  pr : List (Int × W)
  ps : List (List Nat)
  st : List Int
  dn : Nat → List Nat
  cs : List Int
  far : Nat
def Sd.wys (d : Sd) : List (List Nat) := waysF d.pr.length d.ps d.dn
def Sd.L (d : Sd) : List Lay := laysF d.pr d.cs d.ps
def Sd.own (d : Sd) : List Addr := [d.x.a, d.x.ly, d.a, d.ca]
section
variable {K : PySem.W.Frag} {H H' : Hp} {M : List Addr} {d : Sd} {lc lc' : List (Option Cnt)} {mv mv' : Int} {p q : Addr}
end
theorem HallAt.fresh {K : PySem.W.Frag} {H0 H H' : Hp} {x : HA} {wys : List (List Nat)} {L : List Lay} {lc lc' : List (Option Cnt)} {mv mv' : Int} {r : Addr} {o : HO} (h : HallAt K H0 H x wys L lc mv) (h' : HallAt K H0 H' x wys L lc' mv') (b : ButHl x H H') (hr : H r = none) : HallAt K (upd H0 r o) H' x wys L lc' mv' := by
  obtain ⟨g1, ⟨ws0, g2, g3⟩, ⟨ls0, g4, g5⟩, ⟨vs0, g6, g7⟩, _, _, _, _⟩ := h
  obtain ⟨h1, ⟨ws, h2, h3⟩, ⟨ls, h4, h5⟩, ⟨vs, h6, h7⟩, f1, f2, f3, f4⟩ := h'
  have ne : ∀ {b : Addr} {u : HO}, H b = some u → H0 b = none → (upd H0 r o) b = none := fun e n => by rw [upd_ne (ne_of_none e hr)]; exact n
  have ew : ws0 = ws := by
    have z := b _ _ (ne_of g2 g1 (by intro z; cases z)) f2.2 g2
    have y := HO.lst.inj (Option.some.inj (z.symm.trans h2))
    exact (List.map_inj_right (fun a b e => V.ref.inj e)).mp y
  have el : ls0 = ls := by
    have z := b _ _ (ne_of g4 g1 (by intro z; cases z)) f3.2 g4
    have y := HO.lst.inj (Option.some.inj (z.symm.trans h4))
    exact (List.map_inj_right (fun a b e => V.ref.inj e)).mp y
  subst ew el
  have old : ∀ b ∈ ws0, ∃ u, H b = some u := fun b hb => by
    obtain ⟨w, z, _⟩ := PairedMem.left g3 b hb
    exact ⟨_, z⟩
  have old2 : ∀ b ∈ ls0, ∃ u, H b = some u := fun b hb => by
    obtain ⟨w, ⟨us, z, _⟩, _⟩ := PairedMem.left g5 b hb
    exact ⟨_, z⟩
  refine ⟨h1, ⟨ws0, h2, PairedMem.map h3 fun b w hb z => ?_⟩, ⟨ls0, h4, PairedMem.map h5 fun b l hb z => ?_⟩, ⟨vs, h6, h7⟩, ne g1 f1, ⟨ne g2 f2.1, f2.2⟩, ⟨ne g4 f3.1, f3.2⟩, ne g6 f4⟩
  · obtain ⟨u, hu⟩ := old b hb
    exact ⟨z.1, ne hu z.2.1, z.2.2⟩
  · obtain ⟨u, hu⟩ := old2 b hb
    exact ⟨z.1, ne hu z.2.1, z.2.2⟩
section
variable {K : PySem.W.Frag} {T : List (Addr × Str)} {H H' : Hp} {h c S : Addr} {ds : List (Addr × Sd)} {p : Addr × Sd}
end
end Ov

/-! ### what traces cost -/
namespace Ov
open PySem PySem.Spec PyProof.Rows L2
def tstep (wys : List (List Nat)) (L : List Lay) (s : List (Option Cnt) × Nat) (f : Nat) : List (Option Cnt) × Nat := (brgs s.1 L (mis s.1 L (wys[f]?.getD [])), s.2 + siz L (mis s.1 L (wys[f]?.getD [])))
def tsum (wys : List (List Nat)) (L : List Lay) (s : List (Option Cnt) × Nat) (ns : List Nat) : List (Option Cnt) × Nat := ns.foldl (tstep wys L) s
theorem tsum_snoc (wys : List (List Nat)) (L : List Lay) (s : List (Option Cnt) × Nat) (ns : List Nat) (f : Nat) : tsum wys L s (ns ++ [f]) = tstep wys L (tsum wys L s ns) f := by
  unfold tsum
  rw [List.foldl_append]
  rfl
def costT (wys : List (List Nat)) (L : List Lay) (n : Nat) (ns : List Nat) : Nat := (tsum wys L (List.replicate n none, 0) ns).2
section
open LamX
end
end Ov
namespace Ov
open PySem PySem.Spec PyProof.Rows L2
/-- there is a farthest end -/
theorem far_ex {pr : List (Int × W)} (ok : PrOk pr) {ps : List (List Nat)} {st : List Int} {dn : Nat → List Nat} (ht : TrOk pr.length ps st) : ∃ m, Far pr ps dn m := by
  have h0 := ht.p.pos (by have := ok.l1; omega)
  have key : ∀ (n : Nat), n ≤ ps.length → 0 < n → ∃ m, (∃ i p, i < n ∧ ps[i]? = some p ∧ m = bgn pr ps dn i + psz pr p) ∧ ∀ i p, i < n → ps[i]? = some p → bgn pr ps dn i + psz pr p ≤ m := by
    intro n
    induction n with
    | zero => intro _ h; omega
    | succ n ih =>
      intro hn _
      obtain ⟨p, hp⟩ : ∃ p, ps[n]? = some p := ⟨_, List.getElem?_eq_getElem (by omega)⟩
      by_cases h : n = 0
      · subst h
        exact ⟨_, ⟨0, p, by omega, hp, rfl⟩, fun i q hi hq => by
          obtain rfl : i = 0 := by omega
          obtain rfl := Option.some.inj (hp.symm.trans hq)
          exact Int.le_refl _⟩
      · obtain ⟨m, ⟨i, q, hi, hq, e⟩, hm⟩ := ih (by omega) (by omega)
        by_cases c : bgn pr ps dn n + psz pr p ≤ m
        · refine ⟨m, ⟨i, q, by omega, hq, e⟩, fun j r hj hr => ?_⟩
          by_cases ej : j = n
          · subst ej
            obtain rfl := Option.some.inj (hp.symm.trans hr)
            exact c
          · exact hm j r (by omega) hr
        · refine ⟨_, ⟨n, p, by omega, hp, rfl⟩, fun j r hj hr => ?_⟩
          by_cases ej : j = n
          · subst ej
            obtain rfl := Option.some.inj (hp.symm.trans hr)
            exact Int.le_refl _
          · have := hm j r (by omega) hr
            omega
  obtain ⟨m, ⟨i, p, _, hp, e⟩, h⟩ := key ps.length (Nat.le_refl _) h0
  exact ⟨m, ⟨i, p, hp, e⟩, fun j q hq => h j q (List.getElem?_eq_some_iff.mp hq).1 hq⟩
end Ov
namespace Ov
open PySem PySem.Spec PyProof.Rows L2
end Ov

/-! ### costs of traces: looked at twice, longer, from a fuller room; no less than what is entered -/
namespace Ov
open PySem PySem.Spec PyProof.Rows L2
section
variable {wys : List (List Nat)} {L : List Lay} {far : Nat}
theorem tstep_len (s : List (Option Cnt) × Nat) (f : Nat) : (tstep wys L s f).1.length = s.1.length := by
  unfold tstep
  exact brgs_len L _ _
theorem way_or (f : Nat) : (wys[f]?.getD [] : List Nat) = [] ∨ (wys[f]?.getD [] : List Nat) ∈ wys := by
  cases h : wys[f]? with
  | none => exact .inl rfl
  | some w => exact .inr (List.mem_of_getElem? h)
theorem look_has' (ok : HlOk wys L far) {ly : List (Option Cnt)} (lf : far ≤ ly.length) {f q : Nat} (hq : q ∈ (wys[f]?.getD [] : List Nat)) : Has (brgs ly L (mis ly L (wys[f]?.getD []))) (lyr L q) = true := by
  rcases way_or (wys := wys) f with e | e
  · rw [e] at hq
    cases hq
  · exact look_has ok e lf hq
/-- marks of different parts differ -/
def Marks (L : List Lay) : Prop := ∀ q r, ∀ e ∈ lyr L q, ∀ d ∈ lyr L r, e.2 = d.2 → q = r
theorem brg_val : ∀ (l : Lay) (ly : List (Option Cnt)) (c : Nat), c < ly.length → ((∀ e ∈ l, e.1 ≠ c) ∧ (brg ly l)[c]? = ly[c]?) ∨ ∃ e ∈ l, e.1 = c ∧ (brg ly l)[c]? = some (some e.2)
  | [], ly, c, _ => .inl ⟨fun _ z => (nomatch z), rfl⟩
  | a :: r, ly, c, h => by
    show ((∀ e ∈ a :: r, e.1 ≠ c) ∧ (brg (ly.set a.1 (some a.2)) r)[c]? = ly[c]?) ∨ ∃ e ∈ a :: r, e.1 = c ∧ (brg (ly.set a.1 (some a.2)) r)[c]? = some (some e.2)
    rcases brg_val r (ly.set a.1 (some a.2)) c (by rw [List.length_set]; exact h) with ⟨h1, h2⟩ | ⟨e, h1, h2, h3⟩
    · by_cases ha : a.1 = c
      · refine .inr ⟨a, List.mem_cons_self, ha, ?_⟩
        rw [h2, ha, List.getElem?_set_self h]
      · refine .inl ⟨fun e he => ?_, ?_⟩
        · rcases List.mem_cons.mp he with rfl | he
          · exact ha
          · exact h1 e he
        · rw [h2, List.getElem?_set_ne ha]
    · exact .inr ⟨e, List.mem_cons_of_mem _ h1, h2, h3⟩
theorem brgs_val : ∀ (ms : List Nat) (ly : List (Option Cnt)) (c : Nat), c < ly.length → ((∀ r ∈ ms, ∀ e ∈ lyr L r, e.1 ≠ c) ∧ (brgs ly L ms)[c]? = ly[c]?) ∨ ∃ r ∈ ms, ∃ e ∈ lyr L r, e.1 = c ∧ (brgs ly L ms)[c]? = some (some e.2)
  | [], ly, c, _ => .inl ⟨fun _ z => (nomatch z), rfl⟩
  | m :: ms, ly, c, h => by
    show ((∀ r ∈ m :: ms, ∀ e ∈ lyr L r, e.1 ≠ c) ∧ (brgs (brg ly (lyr L m)) L ms)[c]? = ly[c]?) ∨ ∃ r ∈ m :: ms, ∃ e ∈ lyr L r, e.1 = c ∧ (brgs (brg ly (lyr L m)) L ms)[c]? = some (some e.2)
    rcases brgs_val ms (brg ly (lyr L m)) c (by rw [brg_len]; exact h) with ⟨h1, h2⟩ | ⟨r, h1, e, h2, h3, h4⟩
    · rcases brg_val (lyr L m) ly c h with ⟨g1, g2⟩ | ⟨e, g1, g2, g3⟩
      · refine .inl ⟨fun r hr => ?_, by rw [h2, g2]⟩
        rcases List.mem_cons.mp hr with rfl | hr
        · exact g1
        · exact h1 r hr
      · exact .inr ⟨m, List.mem_cons_self, e, g1, g2, by rw [h2, g3]⟩
    · exact .inr ⟨r, List.mem_cons_of_mem _ h1, e, h2, h3, h4⟩
/-- who is there behind what was brought: it was brought, or was there and lies apart -/
theorem has_of (mk : Marks L) (ok : HlOk wys L far) {ms : List Nat} {ly : List (Option Cnt)} (lf : far ≤ ly.length) {q : Nat} (h : Has (brgs ly L ms) (lyr L q) = true) : q ∈ ms ∨ (Has ly (lyr L q) = true ∧ ∀ r ∈ ms, Apart (lyr L q) (lyr L r)) := by
  by_cases hq : q ∈ ms
  · exact .inl hq
  have key : ∀ e ∈ lyr L q, (∀ r ∈ ms, ∀ d ∈ lyr L r, d.1 ≠ e.1) ∧ ly[e.1]? = some (some e.2) := by
    intro e he
    have v := has_iff.mp h e he
    rcases brgs_val (L := L) ms ly e.1 (Nat.lt_of_lt_of_le (ok.lt q e he) lf) with ⟨h1, h2⟩ | ⟨r, h1, d, h2, h3, h4⟩
    · exact ⟨h1, by rw [← h2]; exact v⟩
    · have e2 : e.2 = d.2 := by
        have z := v.symm.trans h4
        injection z with z
        injection z
      exact absurd (by rw [mk q r e he d h2 e2]; exact h1) hq
  exact .inr ⟨has_iff.mpr fun e he => (key e he).2, fun r hr e he d hd z => (key e he).1 r hr d hd z.symm⟩
theorem siz_filter {p1 p2 : Nat → Bool} (hp : ∀ q, p2 q = true → p1 q = true) : ∀ w : List Nat, siz L (w.filter p2) ≤ siz L (w.filter p1)
  | [] => Nat.le_refl _
  | q :: w => by
    have ih := siz_filter hp w
    have sc : ∀ (a : Nat) (l : List Nat), siz L (a :: l) = (lyr L a).length + siz L l := fun a l => by
      unfold siz
      rw [List.map_cons, List.sum_cons]
    cases h2 : p2 q with
    | true =>
      rw [List.filter_cons_of_pos h2, List.filter_cons_of_pos (hp q h2), sc, sc]
      omega
    | false =>
      rw [List.filter_cons_of_neg (by rw [h2]; decide)]
      cases h1 : p1 q with
      | true =>
        rw [List.filter_cons_of_pos h1, sc]
        omega
      | false =>
        rw [List.filter_cons_of_neg (by rw [h1]; decide)]
        exact ih
end
/-! ### no less than what is entered -/
section
variable {wys : List (List Nat)} {L : List Lay} {far : Nat}
/-- the parts that were brought in so far -/
structure BrIn (L : List Lay) (B : List Nat) (l : List (Option Cnt)) (c : Nat) : Prop where
  nd : B.Nodup
  all : ∀ q, Has l (lyr L q) = true → lyr L q = [] ∨ q ∈ B
  le : siz L B ≤ c
theorem siz_app (L : List Lay) (a b : List Nat) : siz L (a ++ b) = siz L a + siz L b := by
  unfold siz
  rw [List.map_append, List.sum_append]
theorem way_nd (ok : HlOk wys L far) (f : Nat) : (wys[f]?.getD [] : List Nat).Nodup := by
  rcases way_or (wys := wys) f with e | e
  · rw [e]
    exact List.nodup_nil
  · exact (ok.ap _ e).imp fun h => h.1
theorem BrIn.step (mk : Marks L) (ok : HlOk wys L far) {B : List Nat} {s : List (Option Cnt) × Nat} (lf : far ≤ s.1.length) (h : BrIn L B s.1 s.2) (f : Nat) : ∃ B', (∀ q ∈ B, q ∈ B') ∧ BrIn L B' (tstep wys L s f).1 (tstep wys L s f).2 ∧ ∀ q ∈ (wys[f]?.getD [] : List Nat), lyr L q = [] ∨ q ∈ B' := by
  obtain ⟨h1, h2, h3⟩ := h
  have all' : ∀ q, Has (tstep wys L s f).1 (lyr L q) = true → lyr L q = [] ∨ q ∈ B ++ (mis s.1 L (wys[f]?.getD [])).filter (fun q => !B.contains q) := by
    intro q hq
    rcases has_of mk ok lf hq with hm | ⟨ho, _⟩
    · by_cases hb : q ∈ B
      · exact .inr (List.mem_append_left _ hb)
      · refine .inr (List.mem_append_right _ (List.mem_filter.mpr ⟨hm, ?_⟩))
        rw [List.contains_eq_mem, decide_eq_false hb]
        rfl
    · rcases h2 q ho with e | e
      · exact .inl e
      · exact .inr (List.mem_append_left _ e)
  refine ⟨B ++ (mis s.1 L (wys[f]?.getD [])).filter (fun q => !B.contains q), fun q hq => List.mem_append_left _ hq, ⟨?_, all', ?_⟩, fun q hq => all' q (look_has' ok lf hq)⟩
  · refine List.nodup_append.mpr ⟨h1, (((way_nd ok f).sublist List.filter_sublist).sublist List.filter_sublist), fun a ha b hb z => ?_⟩
    subst z
    have := (List.mem_filter.mp hb).2
    rw [List.contains_eq_mem, decide_eq_true ha] at this
    cases this
  · rw [siz_app]
    have z := siz_filter (L := L) (p1 := fun _ => true) (p2 := fun q => !B.contains q) (fun _ _ => rfl) (mis s.1 L (wys[f]?.getD []))
    rw [List.filter_eq_self.mpr (fun _ _ => rfl)] at z
    show _ ≤ s.2 + siz L (mis s.1 L (wys[f]?.getD []))
    omega
theorem BrIn.all_ (mk : Marks L) (ok : HlOk wys L far) : ∀ (ns : List Nat) {B : List Nat} {s : List (Option Cnt) × Nat}, far ≤ s.1.length → BrIn L B s.1 s.2 → ∃ B', (∀ q ∈ B, q ∈ B') ∧ BrIn L B' (tsum wys L s ns).1 (tsum wys L s ns).2 ∧ ∀ f ∈ ns, ∀ q ∈ (wys[f]?.getD [] : List Nat), lyr L q = [] ∨ q ∈ B'
  | [], B, s, _, h => ⟨B, fun _ z => z, h, fun _ z => (nomatch z)⟩
  | f :: r, B, s, lf, h => by
    obtain ⟨B1, a1, a2, a3⟩ := h.step mk ok lf f
    obtain ⟨B2, b1, b2, b3⟩ := BrIn.all_ mk ok r (s := tstep wys L s f) (by rw [tstep_len]; exact lf) a2
    refine ⟨B2, fun q hq => b1 q (a1 q hq), b2, fun g hg q hq => ?_⟩
    rcases List.mem_cons.mp hg with rfl | hg
    · rcases a3 q hq with e | e
      · exact .inl e
      · exact .inr (b1 q e)
    · exact b3 g hg q hq
theorem BrIn.new {n : Nat} : BrIn L [] (List.replicate n none) 0 := by
  refine ⟨List.nodup_nil, fun q h => ?_, Nat.le_refl _⟩
  cases e : lyr L q with
  | nil => exact .inl rfl
  | cons a l =>
    have z := has_iff.mp h a (by rw [e]; exact List.mem_cons_self)
    rw [List.getElem?_replicate] at z
    split at z <;> cases z
end
theorem marks_lays {pr : List (Int × W)} {ps : List (List Nat)} (hp : PInv pr.length ps) {cs : List Int} : Marks (laysF pr cs ps) := by
  have part : ∀ {q : Nat} {e : Nat × Cnt}, e ∈ lyr (laysF pr cs ps) q → prt ps e.2.1 = q := by
    intro q e he
    rw [lyr_lays] at he
    cases hq : ps[q]? with
    | none =>
      rw [hq] at he
      cases he
    | some p =>
      rw [hq] at he
      obtain ⟨f, hf, h2⟩ := List.mem_flatMap.mp he
      obtain ⟨n, _, h3⟩ := List.mem_map.mp h2
      subst h3
      exact prt_eq hp hq hf
  intro q r e he d hd z
  rw [← part he, ← part hd, z]
theorem psz_sub {pr : List (Int × W)} : ∀ (fs gs : List Nat), fs.Nodup → (∀ f ∈ fs, f ∈ gs) → (∀ g ∈ gs, 0 ≤ fsz pr g) → psz pr fs ≤ psz pr gs
  | [], gs, _, _, hn => by
    have nn : ∀ l : List Nat, (∀ g ∈ l, 0 ≤ fsz pr g) → 0 ≤ psz pr l := by
      intro l
      induction l with
      | nil => intro _; exact Int.le_refl 0
      | cons a l ih =>
        intro h
        rw [show a :: l = [a] ++ l from rfl, psz_app]
        have h1 := ih fun g hg => h g (List.mem_cons_of_mem _ hg)
        have h2 := h a List.mem_cons_self
        have h3 : psz pr [a] = fsz pr a := by simp [psz]
        omega
    exact nn gs hn
  | f :: r, gs, nd, hs, hn => by
    obtain ⟨a, b, e⟩ := List.append_of_mem (hs f List.mem_cons_self)
    subst e
    obtain ⟨n1, n2⟩ := List.nodup_cons.mp nd
    have ih := psz_sub r (a ++ b) n2 (fun g hg => by
      have z := hs g (List.mem_cons_of_mem _ hg)
      rcases List.mem_append.mp z with z | z
      · exact List.mem_append_left _ z
      · rcases List.mem_cons.mp z with rfl | z
        · exact absurd hg n1
        · exact List.mem_append_right _ z) (fun g hg => hn g (by
      rcases List.mem_append.mp hg with z | z
      · exact List.mem_append_left _ z
      · exact List.mem_append_right _ (List.mem_cons_of_mem _ z)))
    rw [show f :: r = [f] ++ r from rfl, psz_app, psz_app, show f :: b = [f] ++ b from rfl, psz_app]
    rw [psz_app] at ih
    omega
/-- a trace costs no less than the functions that are in it -/
theorem costT_low {pr : List (Int × W)} (ok : PrOk pr) {ps : List (List Nat)} {st : List Int} (ht : TrOk pr.length ps st) {dn : Nat → List Nat} {cs : List Int} (hc : Cells pr ps dn cs) {far : Nat} (hl : HlOk (waysF pr.length ps dn) (laysF pr cs ps) far) {n : Nat} (hn : far ≤ n) {ns fs : List Nat} (nd : fs.Nodup) (hs : ∀ f ∈ fs, f ∈ ns) (hlt : ∀ f ∈ fs, f < pr.length) : psz pr fs ≤ (costT (waysF pr.length ps dn) (laysF pr cs ps) n ns : Nat) := by
  have hp : PInv pr.length ps := ht.1
  obtain ⟨B, _, hB, hw⟩ := BrIn.all_ (marks_lays hp) hl ns (s := (List.replicate n none, 0)) (by rw [List.length_replicate]; exact hn) BrIn.new
  have e1 := siz_eq ok hp hc B
  have h2 : psz pr fs ≤ psz pr (B.flatMap fun q => ps[q]?.getD []) := by
    refine psz_sub fs _ nd (fun f hf => ?_) (fun g hg => ?_)
    · obtain ⟨i, p, hi, hfp⟩ : ∃ (i : Nat) (p : List Nat), ps[i]? = some p ∧ f ∈ p := by
        obtain ⟨p, hp1, hp2⟩ := List.mem_flatten.mp (hp.perm.mem_iff.mpr (List.mem_range.mpr (hlt f hf)))
        obtain ⟨i, hi⟩ := List.mem_iff_getElem?.mp hp1
        exact ⟨i, p, hi, hp2⟩
      have hq := prt_eq hp hi hfp
      have hin : i ∈ (waysF pr.length ps dn)[f]?.getD [] := by
        unfold waysF
        rw [List.getElem?_map, List.getElem?_range (hlt f hf)]
        show i ∈ wayF ps dn f
        unfold wayF
        rw [hq]
        exact List.mem_append_right _ (List.mem_singleton.mpr rfl)
      rcases hw f (hs f hf) i hin with e | e
      · exfalso
        have z := lay_len ok hp hc (q := i)
        rw [e, hi] at z
        have z2 : (0 : Int) = psz pr p := z
        have z3 := psz_sub (pr := pr) [f] p (by simp) (fun g hg => by rw [List.mem_singleton.mp hg]; exact hfp) (fun g hg => by
          have := fsz_pos ok (hp.lt (List.mem_of_getElem? hi) hg)
          omega)
        have z4 : psz pr [f] = fsz pr f := by simp [psz]
        have z5 := fsz_pos ok (hlt f hf)
        omega
      · refine List.mem_flatMap.mpr ⟨i, e, ?_⟩
        rw [hi]
        exact hfp
    · obtain ⟨q, _, hg2⟩ := List.mem_flatMap.mp hg
      have gl : g < pr.length := by
        cases hq : ps[q]? with
        | none =>
          rw [hq] at hg2
          cases hg2
        | some p =>
          rw [hq] at hg2
          exact hp.lt (List.mem_of_getElem? hq) hg2
      have := fsz_pos ok gl
      omega
  rw [psz_flat] at h2
  have h3 := hB.le
  have h4 : (siz (laysF pr cs ps) B : Int) ≤ (costT (waysF pr.length ps dn) (laysF pr cs ps) n ns : Nat) := Int.ofNat_le.mpr h3
  omega
end Ov

/-! ### where a run went -/
namespace Ov
open PySem PySem.Spec PyProof.Rows L2
/-- d: calls under way -/
def RowS (n d : Nat) (s : RS) : Prop := s.row ≠ [] ∧ (∀ f ∈ s.row, f < n) ∧ s.row.length + d ≤ 1 + 2 * s.calls ∧ s.calls ≤ 200
def RowR (n d : Nat) : Res → Prop
  | .ok v s => WtOk n v ∧ RowS n d s
  | .bad _ s => RowS n 0 s
theorem RowS.zero {n d : Nat} {s : RS} (h : RowS n d s) : RowS n 0 s := ⟨h.1, h.2.1, by have := h.2.2.1; omega, h.2.2.2⟩
theorem RowR.bind {n d : Nat} {k : Wt → RS → Res} {e : Nat} : ∀ {r : Res}, RowR n e r → (∀ v s, WtOk n v → RowS n e s → RowR n d (k v s)) → RowR n d (r.bind k)
  | .ok v s, h, hk => hk v s h.1 h.2
  | .bad _ _, h, _ => h
theorem evArms_row {n d : Nat} {ev : W → RS → Res} {k : List Wt → RS → Res} : ∀ (ws : List W) (acc : List Wt) (s : RS), (∀ w ∈ ws, ∀ s, RowS n d s → RowR n d (ev w s)) → RowS n d s → (∀ v ∈ acc, WtOk n v) → (∀ vs s, (∀ v ∈ vs, WtOk n v) → RowS n d s → RowR n d (k vs s)) → RowR n d (evArms ev ws acc s k)
  | [], acc, s, _, hs, ha, hk => hk acc s ha hs
  | w :: ws, acc, s, he, hs, ha, hk => by
    refine RowR.bind (he w List.mem_cons_self s hs) fun v s' hv hs' => ?_
    refine evArms_row ws (acc ++ [v]) s' (fun u hu => he u (List.mem_cons_of_mem _ hu)) hs' (fun u hu => ?_) hk
    rcases List.mem_append.mp hu with h | h
    · exact ha u h
    · rw [List.mem_singleton.mp h]
      exact hv
theorem fin_row {n d : Nat} {call : Nat → Wt → RS → Res} (hc : ∀ f u s, f < n → WtOk n u → RowS n d s → RowR n d (call f u s)) {o : Op} {g : Int} (hg : o.fits n g) {vs : List Wt} {s : RS} (hv : ∀ v ∈ vs, WtOk n v) (hs : RowS n d s) : RowR n d (fin call o g vs s) := by
  have md : ∀ z : Int, WtOk n (.num (z % 1000)) := fun z => ⟨Int.emod_nonneg _ (by decide), Int.emod_lt_of_pos _ (by decide)⟩
  unfold fin
  split
  · exact ⟨hv _ (by simp), hs⟩
  · exact ⟨hv _ (by simp), hs.1, hs.2⟩
  · have h := hg
    exact hc _ _ _ (by have : 0 ≤ g ∧ g < n := h; omega) (hv _ (by simp)) hs
  · rename_i f u
    exact hc _ _ _ (hv (.way f) (by simp)) (hv _ (by simp)) hs
  · exact ⟨md _, hs⟩
  · exact ⟨md _, hs⟩
  · exact ⟨md _, hs⟩
  · exact hs.zero
theorem evB_row {n p : Nat} {call : Nat → Wt → RS → Res} (hc : ∀ f u s, f < n → WtOk n u → RowS n p s → RowR n p (call f u s)) {a : Wt} (ha : WtOk n a) : ∀ (d : Nat) (w : W) (s : RS), WOk n d w → RowS n p s → RowR n p (evB call a d w s) := by
  intro d
  induction d with
  | zero => exact fun w s h _ => absurd h wok0
  | succ d ih =>
    intro w s h hs
    cases h with
    | @mk _ o g as h1 h2 h3 =>
    have gen : RowR n p (evArms (evB call a d) as [] s (fin call o g)) := evArms_row as [] s (fun w hw s h => ih w s (h3 w hw) h) hs (fun _ z => nomatch z) fun vs s2 h4 h5 => fin_row hc h2 h4 h5
    cases o with
    | num => exact ⟨⟨h2.1, by have : 0 ≤ g ∧ g ≤ 99 := h2; omega⟩, hs⟩
    | way => exact ⟨(by have : 0 ≤ g ∧ g < n := h2; show g.toNat < n; omega), hs⟩
    | arg => exact ⟨ha, hs⟩
    | ife =>
      match as, h1, h3 with
      | [t, x, y], _, h3 =>
        refine RowR.bind (ih t s (h3 t (by simp)) hs) fun v s' hv hs' => ?_
        cases v with
        | way f => exact hs'.zero
        | num z =>
          show RowR n p (if z ≠ 0 then _ else _)
          split
          · exact ih x s' (h3 x (by simp)) hs'
          · exact ih y s' (h3 y (by simp)) hs'
    | plus => exact gen
    | less => exact gen
    | times => exact gen
    | thn => exact gen
    | say => exact gen
    | call => exact gen
    | through => exact gen
theorem snoc_lt {n : Nat} {l : List Nat} (h : ∀ f ∈ l, f < n) {f : Nat} (hf : f < n) : ∀ g ∈ l ++ [f], g < n := fun g hg => by
  rcases List.mem_append.mp hg with e | e
  · exact h g e
  · rw [List.mem_singleton.mp e]
    exact hf
theorem evC_row {pr : List (Int × W)} (hp : PrOk pr) : ∀ (n p c f : Nat) (u : Wt) (s : RS), c < pr.length → f < pr.length → WtOk pr.length u → RowS pr.length p s → RowR pr.length p (evC pr n c f u s)
  | 0, _, _, _, _, s, _, _, _, hs => hs.zero
  | n + 1, p, c, f, u, s, hc, hf, hu, hs => by
    rw [evC]
    by_cases h : 200 ≤ s.calls
    · rw [if_pos h]
      exact hs.zero
    · rw [if_neg h, List.getElem?_eq_getElem hf]
      have hb := hp.f _ (List.getElem_mem hf)
      obtain ⟨h1, h2, h3, h4⟩ := hs
      refine RowR.bind (e := p + 1) (evB_row (n := pr.length) (p := p + 1) (fun f' u' s' g1 g2 g3 => evC_row hp n (p + 1) f f' u' s' hf g1 g2 g3) hu 7 (pr[f]).2 { s with calls := s.calls + 1, row := s.row ++ [f], came := s.came ++ [(f, u)] } hb.2.2.1 ⟨by simp, snoc_lt h2 hf, ?_, ?_⟩) fun v s' hv hs' => ⟨hv, by simp, snoc_lt hs'.2.1 hc, ?_, hs'.2.2.2⟩
      · show (s.row ++ [f]).length + (p + 1) ≤ 1 + 2 * (s.calls + 1)
        rw [List.length_append, List.length_singleton]
        omega
      · show s.calls + 1 ≤ 200
        omega
      · show (s'.row ++ [c]).length + p ≤ 1 + 2 * s'.calls
        rw [List.length_append, List.length_singleton]
        have := hs'.2.2.1
        omega
/-- functions alone, not empty, no more than 401 -/
theorem evR_row {pr : List (Int × W)} (hp : PrOk pr) {z : Int} (h0 : 0 ≤ z) (h1 : z < 1000) : (evR pr z).st.row ≠ [] ∧ (∀ f ∈ (evR pr z).st.row, f < pr.length) ∧ (evR pr z).st.row.length ≤ 401 := by
  have l1 := hp.l1
  obtain ⟨p0, hp0⟩ : ∃ p, pr[0]? = some p := ⟨_, List.getElem?_eq_getElem hp.l1⟩
  have hb := hp.f p0 (List.mem_of_getElem? hp0)
  have g := evB_row (n := pr.length) (p := 0) (call := evC pr 12 0) (a := .num z) (fun f' u' s' h1 h2 h3 => evC_row hp 12 0 0 f' u' s' (by omega) h1 h2 h3) ⟨h0, h1⟩ 7 p0.2 ⟨[], 0, [0], [(0, .num z)], []⟩ hb.2.2.1 ⟨by simp, fun f hf => by
    rw [List.mem_singleton.mp hf]
    omega, Nat.le_refl 1, Nat.zero_le _⟩
  have fin : ∀ s : RS, RowS pr.length 0 s → s.row ≠ [] ∧ (∀ f ∈ s.row, f < pr.length) ∧ s.row.length ≤ 401 := fun s h => ⟨h.1, h.2.1, by have a := h.2.2.1; have b := h.2.2.2; omega⟩
  refine fin _ ?_
  unfold evR
  rw [hp0]
  show RowS pr.length 0 ((evB (evC pr 12 0) (.num z) 7 p0.2 ⟨[], 0, [0], [(0, .num z)], []⟩).bind fun v s => .ok v { s with told := s.told ++ [(0, v)] }).st
  generalize evB (evC pr 12 0) (.num z) 7 p0.2 _ = rs at g ⊢
  cases rs with
  | bad e s2 => exact g
  | ok v s2 => exact g.2
end Ov

/-! ### a run in a room, all looked at: its object as data -/
namespace Ov
open PySem PySem.Spec PyProof.Rows L2
/-- the run's places, the hall's, the two empty dicts; what the hall is -/
structure PR extends PA where
  hx : HA
  da : Addr
  db : Addr
  wys : List (List Nat)
  L : List Lay
  n : Nat
  far : Nat
def roomFs (x : PR) (told : V) (calls others : Int) (looks : Nat) : List (Str × V) := [("bodies", .ref x.bo), ("told", told), ("said", .ref x.sa), ("row", .ref x.ro), ("calls", .int calls), ("others", .int others), ("hall", .ref x.hx.a), ("ahead", .ref x.da), ("back", .ref x.db), ("looks", .int (looks : Int))]
/-- what lies in the room when these functions were looked at in turn -/
def PR.sum (x : PR) (row : List Nat) : List (Option Cnt) × Nat := tsum x.wys x.L (List.replicate x.n none, 0) row
/-- as RunAt; row2: the functions that were looked at -/
structure RoomG (K : PySem.W.Frag) (H : Hp) (x : PR) (pr : List (Int × W)) (told : V) (s : RS) (others : Int) (row2 : List Nat) : Prop where
  ob : H x.a = some (.ins (He.ga K "RoomRun") x.dx (roomFs x told (s.calls : Int) others row2.length))
  bo : ∃ bs : List Addr, H x.bo = some (.lst (bs.map V.ref)) ∧ Paired (BodyAt H) bs pr ∧ ∀ b ∈ bs, b ≠ x.sa ∧ b ≠ x.ro ∧ b ≠ x.hx.ly
  sa : H x.sa = some (.lst (s.said.map V.int))
  ro : H x.ro = some (.lst (nV s.row))
  nd : (x.bo ≠ x.sa ∧ x.bo ≠ x.ro ∧ x.bo ≠ x.hx.ly) ∧ x.sa ≠ x.ro
  da : H x.da = some (.dK []) ∧ H x.db = some (.dK [])
  hl : ∃ Hx : Hp, HallIn K Hx H x.hx x.wys x.L (x.sum row2).1 ((x.sum row2).2 : Nat) x.far ∧ Hx x.a ≠ none ∧ Hx x.sa ≠ none ∧ Hx x.ro ≠ none
  wl : x.wys.length = pr.length
abbrev RoomAt (K : PySem.W.Frag) (H : Hp) (x : PR) (pr : List (Int × W)) (told : V) (s : RS) (others : Int) : Prop := RoomG K H x pr told s others s.row
/-- all but the run's and the hall's places stays -/
def ButM (x : PR) (H H' : Hp) : Prop := ∀ b o, b ≠ x.a → b ≠ x.sa → b ≠ x.ro → b ≠ x.hx.a → b ≠ x.hx.ly → H b = some o → H' b = some o
section
variable {K : PySem.W.Frag} {H H' H1 : Hp} {x : PR} {pr : List (Int × W)} {told told' : V} {s : RS} {oth oth' : Int} {row2 : List Nat}
theorem ButM.refl : ButM x H H := fun _ _ _ _ _ _ _ e => e
theorem ButM.trans (p : ButM x H H1) (q : ButM x H1 H') : ButM x H H' := fun b o n1 n2 n3 n4 n5 e => q b o n1 n2 n3 n4 n5 (p b o n1 n2 n3 n4 n5 e)
theorem ButM.same (e : Same H H') : ButM x H H' := fun b o _ _ _ _ _ h => e b o h
theorem ButM.hall (e : ButHl x.hx H H') : ButM x H H' := fun b o _ _ _ n4 n5 h => e b o n4 n5 h
theorem ButM.updn {D : Addr} {o : HO} (b : ButM x H H') (hD : H D = none) : ButM x H (upd H' D o) := fun c u n1 n2 n3 n4 n5 e => by
  rw [upd_ne (ne_of_none e hD)]
  exact b c u n1 n2 n3 n4 n5 e
theorem RoomG.lyl (h : RoomG K H x pr told s oth row2) : ∃ vs, H x.hx.ly = some (.lst vs) := by
  obtain ⟨Hx, i, _⟩ := h.hl
  obtain ⟨vs, e, _⟩ := i.at_.ly
  exact ⟨vs, e⟩
theorem RoomG.hob (h : RoomG K H x pr told s oth row2) : ∃ mv, H x.hx.a = some (.ins (He.ga K "Hall") x.hx.dx (hallFs x.hx mv)) := by
  obtain ⟨Hx, i, _⟩ := h.hl
  exact ⟨_, i.at_.ob⟩
/-- a fresh place is none of the changing ones -/
theorem RoomG.nown {D : Addr} (h : RoomG K H x pr told s oth row2) (hD : H D = none) : D ≠ x.a ∧ D ≠ x.sa ∧ D ≠ x.ro ∧ D ≠ x.hx.a ∧ D ≠ x.hx.ly := by
  obtain ⟨vs, e1⟩ := h.lyl
  obtain ⟨mv, e2⟩ := h.hob
  exact ⟨(ne_of_none h.ob hD).symm, (ne_of_none h.sa hD).symm, (ne_of_none h.ro hD).symm, (ne_of_none e2 hD).symm, (ne_of_none e1 hD).symm⟩
theorem RoomG.keep (h : RoomG K H x pr told s oth row2) (b : ButM x H H') : Keep H H' := fun a xs e => by
  obtain ⟨vs, e1⟩ := h.lyl
  obtain ⟨mv, e2⟩ := h.hob
  exact b a _ (ne_of e h.ob (by intro z; cases z)) (ne_of e h.sa (by intro z; cases z)) (ne_of e h.ro (by intro z; cases z)) (ne_of e e2 (by intro z; cases z)) (ne_of e e1 (by intro z; cases z)) e
theorem RoomG.same (h : RoomG K H x pr told s oth row2) (e : Same H H') : RoomG K H' x pr told s oth row2 := by
  obtain ⟨h1, ⟨bs, h2, h3, h4⟩, h5, h6, n, d, ⟨Hx, i, m⟩, l⟩ := h
  exact ⟨e _ _ h1, ⟨bs, e _ _ h2, L2.Paired.mapP h3 fun _ _ z => z.same e, h4⟩, e _ _ h5, e _ _ h6, n, ⟨e _ _ d.1, e _ _ d.2⟩, ⟨Hx, i.same e, m⟩, l⟩
/-- one of the run's own places is written -/
theorem HallIn.own {K : PySem.W.Frag} {Hx H : Hp} {x : HA} {wys : List (List Nat)} {L : List Lay} {lc : List (Option Cnt)} {mv : Int} {far : Nat} {p : Addr} {o : HO} (i : HallIn K Hx H x wys L lc mv far) (hp : Hx p ≠ none) (k : Keep H (upd H p o)) : HallIn K Hx (upd H p o) x wys L lc mv far :=
  i.keepN (fun b u n e _ => by
    rw [upd_ne (fun z => hp (by rw [← z]; exact n))]
    exact e) k
theorem Keep.updI {H : Hp} {a C dx : Addr} {fs : List (Str × V)} {o : HO} (e : H a = some (.ins C dx fs)) : Keep H (upd H a o) := fun b xs h => by
  rw [upd_ne (ne_of h e (by intro z; cases z))]
  exact h
/-- the object's numbers, what is told, how many looks there were -/
theorem RoomG.wr {c : Nat} {lk : Nat} {row3 : List Nat} (h : RoomG K H x pr told s oth row2) (hl : lk = row3.length) (hs : x.sum row3 = x.sum row2) : RoomG K (upd H x.a (.ins (He.ga K "RoomRun") x.dx (roomFs x told' (c : Int) oth' lk))) x pr told' { s with calls := c } oth' row3 ∧ ButM x H (upd H x.a (.ins (He.ga K "RoomRun") x.dx (roomFs x told' (c : Int) oth' lk))) := by
  subst hl
  obtain ⟨h1, ⟨bs, h2, h3, h4⟩, h5, h6, n, d, ⟨Hx, i, m1, m2, m3⟩, l⟩ := h
  have ne : ∀ {b : Addr} {l : List V}, H b = some (.lst l) → b ≠ x.a := fun e => ne_of e h1 (by intro z; cases z)
  have nk : ∀ {b : Addr} {l : List (Key × V)}, H b = some (.dK l) → b ≠ x.a := fun e => ne_of e h1 (by intro z; cases z)
  have kt := Keep.updI (o := .ins (He.ga K "RoomRun") x.dx (roomFs x told' (c : Int) oth' row3.length)) h1
  refine ⟨⟨upd_same, ⟨bs, by rw [upd_ne (ne h2)]; exact h2, L2.Paired.mapP h3 fun b f z => ?_, h4⟩, by rw [upd_ne (ne h5)]; exact h5, by rw [upd_ne (ne h6)]; exact h6, n, ⟨by rw [upd_ne (nk d.1)]; exact d.1, by rw [upd_ne (nk d.2)]; exact d.2⟩, ⟨Hx, ?_, m1, m2, m3⟩, l⟩, fun b o n1 _ _ _ _ e => by rw [upd_ne n1]; exact e⟩
  · obtain ⟨ys, z1, z2⟩ := z
    exact ⟨ys, by rw [upd_ne (ne z1)]; exact z1, L2.Paired.mapP z2 fun _ _ y => y.keep kt⟩
  · rw [hs]
    exact i.own m1 kt
theorem RoomG.wr0 {c : Nat} (h : RoomG K H x pr told s oth row2) : RoomG K (upd H x.a (.ins (He.ga K "RoomRun") x.dx (roomFs x told' (c : Int) oth' row2.length))) x pr told' { s with calls := c } oth' row2 ∧ ButM x H (upd H x.a (.ins (He.ga K "RoomRun") x.dx (roomFs x told' (c : Int) oth' row2.length))) := h.wr rfl rfl
theorem RoomG.updS {z : Int} (h : RoomG K H x pr told s oth row2) : RoomG K (upd H x.sa (.lst (s.said.map V.int ++ [.int z]))) x pr told { s with said := s.said ++ [z] } oth row2 ∧ ButM x H (upd H x.sa (.lst (s.said.map V.int ++ [.int z]))) := by
  have kt := Keep.updL (ys := s.said.map V.int ++ [.int z]) h.sa
  obtain ⟨h1, ⟨bs, h2, h3, h4⟩, h5, h6, ⟨⟨n1, n2, n3⟩, n4⟩, d, ⟨Hx, i, m1, m2, m3⟩, l⟩ := h
  have nk : ∀ {b : Addr} {l : List (Key × V)}, H b = some (.dK l) → b ≠ x.sa := fun e => ne_of e h5 (by intro z; cases z)
  exact ⟨⟨by rw [upd_ne (ne_of h1 h5 (by intro z; cases z))]; exact h1, ⟨bs, by rw [upd_ne n1]; exact h2, PairedMem.map h3 fun b f hb z => z.updL h5 (h4 b hb).1, h4⟩, by rw [upd_same, List.map_append]; rfl, by rw [upd_ne n4.symm]; exact h6, ⟨⟨n1, n2, n3⟩, n4⟩, ⟨by rw [upd_ne (nk d.1)]; exact d.1, by rw [upd_ne (nk d.2)]; exact d.2⟩, ⟨Hx, i.own m2 kt, m1, m2, m3⟩, l⟩, fun b o _ n _ _ _ e => by rw [upd_ne n]; exact e⟩
theorem RoomG.updR {f : Nat} (h : RoomG K H x pr told s oth row2) : RoomG K (upd H x.ro (.lst (nV s.row ++ [.int (f : Int)]))) x pr told { s with row := s.row ++ [f] } oth row2 ∧ ButM x H (upd H x.ro (.lst (nV s.row ++ [.int (f : Int)]))) := by
  have kt := Keep.updL (ys := nV s.row ++ [.int (f : Int)]) h.ro
  obtain ⟨h1, ⟨bs, h2, h3, h4⟩, h5, h6, ⟨⟨n1, n2, n3⟩, n4⟩, d, ⟨Hx, i, m1, m2, m3⟩, l⟩ := h
  have nk : ∀ {b : Addr} {l : List (Key × V)}, H b = some (.dK l) → b ≠ x.ro := fun e => ne_of e h6 (by intro z; cases z)
  exact ⟨⟨by rw [upd_ne (ne_of h1 h6 (by intro z; cases z))]; exact h1, ⟨bs, by rw [upd_ne n2]; exact h2, PairedMem.map h3 fun b f hb z => z.updL h6 (h4 b hb).2.1, h4⟩, by rw [upd_ne n4]; exact h5, by rw [upd_same, nV_app], ⟨⟨n1, n2, n3⟩, n4⟩, ⟨by rw [upd_ne (nk d.1)]; exact d.1, by rw [upd_ne (nk d.2)]; exact d.2⟩, ⟨Hx, i.own m3 kt, m1, m2, m3⟩, l⟩, fun b o _ _ n _ _ e => by rw [upd_ne n]; exact e⟩
/-- the hall looked: f too has been looked at -/
theorem RoomG.look {Hx : Hp} {f : Nat} {lc : List (Option Cnt)} {mv : Int} (h : RoomG K H x pr told s oth row2) (i : HallIn K Hx H x.hx x.wys x.L (x.sum row2).1 ((x.sum row2).2 : Nat) x.far) (m1 : Hx x.a ≠ none) (m2 : Hx x.sa ≠ none) (m3 : Hx x.ro ≠ none) (b : ButHl x.hx H H') (i2 : HallIn K Hx H' x.hx x.wys x.L lc mv x.far) (e1 : lc = (x.sum (row2 ++ [f])).1) (e2 : mv = ((x.sum (row2 ++ [f])).2 : Nat)) :
    RoomG K (upd H' x.a (.ins (He.ga K "RoomRun") x.dx (roomFs x told (s.calls : Int) oth (row2 ++ [f]).length))) x pr told s oth (row2 ++ [f]) ∧ H' x.a = some (.ins (He.ga K "RoomRun") x.dx (roomFs x told (s.calls : Int) oth row2.length)) := by
  have kH : Keep H H' := h.keep (ButM.hall b)
  obtain ⟨vs, ey⟩ := h.lyl
  obtain ⟨mv0, ea⟩ := h.hob
  obtain ⟨h1, ⟨bs, h2, h3, h4⟩, h5, h6, ⟨⟨n1, n2, n3⟩, n4⟩, d, _, l⟩ := h
  have na : x.a ≠ x.hx.a := fun z => m1 (by rw [z]; exact i.at_.fa)
  have nay : x.a ≠ x.hx.ly := fun z => m1 (by rw [z]; exact i.at_.fy)
  have ns : x.sa ≠ x.hx.a := fun z => m2 (by rw [z]; exact i.at_.fa)
  have nsy : x.sa ≠ x.hx.ly := fun z => m2 (by rw [z]; exact i.at_.fy)
  have nr : x.ro ≠ x.hx.a := fun z => m3 (by rw [z]; exact i.at_.fa)
  have nry : x.ro ≠ x.hx.ly := fun z => m3 (by rw [z]; exact i.at_.fy)
  have g1 := b _ _ na nay h1
  have g5 := b _ _ ns nsy h5
  have g6 := b _ _ nr nry h6
  have nl : ∀ {c : Addr} {l : List V}, H c = some (.lst l) → c ≠ x.hx.a := fun e => ne_of e ea (by intro z; cases z)
  have nd : ∀ {c : Addr} {l : List (Key × V)}, H c = some (.dK l) → c ≠ x.hx.a ∧ c ≠ x.hx.ly := fun e => ⟨ne_of e ea (by intro z; cases z), ne_of e ey (by intro z; cases z)⟩
  have g2 := b _ _ (nl h2) n3 h2
  have gd1 := b _ _ (nd d.1).1 (nd d.1).2 d.1
  have gd2 := b _ _ (nd d.2).1 (nd d.2).2 d.2
  have g3 : Paired (BodyAt H') bs pr := PairedMem.map h3 fun c f hc z => by
    obtain ⟨ys, z1, z2⟩ := z
    exact ⟨ys, b _ _ (nl z1) (h4 c hc).2.2 z1, L2.Paired.mapP z2 fun _ _ y => y.keep kH⟩
  have ne : ∀ {c : Addr} {l : List V}, H' c = some (.lst l) → c ≠ x.a := fun e => ne_of e g1 (by intro z; cases z)
  have nk : ∀ {c : Addr} {l : List (Key × V)}, H' c = some (.dK l) → c ≠ x.a := fun e => ne_of e g1 (by intro z; cases z)
  have kt := Keep.updI (o := .ins (He.ga K "RoomRun") x.dx (roomFs x told (s.calls : Int) oth (row2 ++ [f]).length)) g1
  rw [e1, e2] at i2
  refine ⟨⟨upd_same, ⟨bs, by rw [upd_ne (ne g2)]; exact g2, L2.Paired.mapP g3 fun b f z => ?_, h4⟩, by rw [upd_ne (ne g5)]; exact g5, by rw [upd_ne (ne g6)]; exact g6, ⟨⟨n1, n2, n3⟩, n4⟩, ⟨by rw [upd_ne (nk gd1)]; exact gd1, by rw [upd_ne (nk gd2)]; exact gd2⟩, ⟨Hx, i2.own m1 kt, m1, m2, m3⟩, l⟩, g1⟩
  obtain ⟨ys, z1, z2⟩ := z
  exact ⟨ys, by rw [upd_ne (ne z1)]; exact z1, L2.Paired.mapP z2 fun _ _ y => y.keep kt⟩
end
/-- as AnsP, of a run in a room -/
def AnsR (K : PySem.W.Frag) (x : PR) (pr : List (Int × W)) (told : V) (oth : Int) (H : Hp) (Q : VK) (E : XK) (r : Res) : Prop := match r with
  | .ok b s => ∀ H' y, ButM x H H' → RoomAt K H' x pr told s oth → PV H' y b → Q y H'
  | .bad f s => ∀ H' d oth', ButM x H H' → RoomAt K H' x pr told s oth' → H' d = some (.xd [("word", .str f.name)]) → E (.ref (He.ga K "Fault")) (some d) H'
theorem AnsR.but {K : PySem.W.Frag} {x : PR} {pr : List (Int × W)} {told : V} {oth : Int} {H H1 : Hp} {Q : VK} {E : XK} (b : ButM x H H1) : ∀ {r : Res}, AnsR K x pr told oth H Q E r → AnsR K x pr told oth H1 Q E r
  | .ok _ _, h => fun H' y b' => h H' y (b.trans b')
  | .bad _ _, h => fun H' d oth' b' => h H' d oth' (b.trans b')
theorem AnsR.out {K : PySem.W.Frag} {x : PR} {pr : List (Int × W)} {told : V} {oth oth' : Int} {H H1 : Hp} {Q : VK} {E : XK} {f : Flt} {s : RS} (h : AnsR K x pr told oth H Q E (.bad f s)) (b : ButM x H H1) (r : RoomAt K H1 x pr told s oth') : Out K H1 E f.name := fun H' d s' _ e => h H' d oth' (b.trans (ButM.same s')) (r.same s') e
theorem roomFs_calls {x : PR} {told : V} {c d : Int} {oth : Int} {lk : Nat} : putF "calls" (.int d) (roomFs x told c oth lk) = roomFs x told d oth lk := by rfl
theorem roomFs_others {x : PR} {told : V} {c : Int} {o1 o2 : Int} {lk : Nat} : putF "others" (.int o2) (roomFs x told c o1 lk) = roomFs x told c o2 lk := by rfl
theorem roomFs_told {x : PR} {t1 t2 : V} {c : Int} {o : Int} {lk : Nat} : putF "told" t2 (roomFs x t1 c o lk) = roomFs x t2 c o lk := by rfl
theorem roomFs_looks {x : PR} {t : V} {c : Int} {o : Int} {l1 l2 : Nat} : putF "looks" (.int (l2 : Int)) (roomFs x t c o l1) = roomFs x t c o l2 := by rfl
def spSayR (K : PySem.W.Frag) : Sp := fun vs H Q E => ∃ (x : PR) (pr : List (Int × W)) (told v : V) (s : RS) (oth : Int) (a : Wt), vs = [.ref x.a, v] ∧ RoomAt K H x pr told s oth ∧ PV H v a ∧ s.said.length ≤ most ∧ match a with
  | .num z => ∀ H', ButM x H H' → RoomAt K H' x pr told { s with said := s.said ++ [z] } oth → Q v H'
  | .way _ => Out K H E "kind"
/-- Run.enter and Run.come_back of a run in a room: the row alone -/
def spEnter0 (K : PySem.W.Frag) : Sp := fun vs H Q _ => ∃ (x : PR) (pr : List (Int × W)) (told v : V) (s : RS) (oth : Int) (f : Nat), vs = [.ref x.a, v, .int (f : Int)] ∧ RoomAt K H x pr told s oth ∧ s.row.length ≤ most ∧ ∀ H', ButM x H H' → RoomG K H' x pr told { s with row := s.row ++ [f] } oth s.row → Q .non H'
def spBack0 (K : PySem.W.Frag) : Sp := fun vs H Q _ => ∃ (x : PR) (pr : List (Int × W)) (told : V) (s : RS) (oth : Int) (p : Addr) (f w : Nat), vs = [.ref x.a, .ref p] ∧ H p = some (.tup [.int (f : Int), .int (w : Int)]) ∧ RoomAt K H x pr told s oth ∧ s.row.length ≤ most ∧ ∀ H', ButM x H H' → RoomG K H' x pr told { s with row := s.row ++ [f] } oth s.row → Q .non H'
/-- go_on: one look more -/
def spGoOn (K : PySem.W.Frag) : Sp := fun vs H Q _ => ∃ (x : PR) (pr : List (Int × W)) (told : V) (s : RS) (oth : Int) (row2 : List Nat) (f : Nat), vs = [.ref x.a, .int (f : Int), .bl false] ∧ RoomG K H x pr told s oth row2 ∧ f < pr.length ∧ ∀ H', ButM x H H' → RoomG K H' x pr told s oth (row2 ++ [f]) → Q .non H'
/-- by a place, or by none -/
def PlAt (H : Hp) (v : V) : Prop := v = .non ∨ ∃ (p : Addr) (f w : Nat), v = .ref p ∧ H p = some (.tup [.int (f : Int), .int (w : Int)])
theorem PlAt.keep {H H' : Hp} {v : V} (h : PlAt H v) (k : Keep H H') : PlAt H' v := by
  rcases h with e | ⟨p, f, w, e, hp⟩
  · exact .inl e
  · exact .inr ⟨p, f, w, e, k _ _ hp⟩
def spEnterR (K : PySem.W.Frag) : Sp := fun vs H Q _ => ∃ (x : PR) (pr : List (Int × W)) (told v : V) (s : RS) (oth : Int) (f : Nat), vs = [.ref x.a, v, .int (f : Int)] ∧ RoomAt K H x pr told s oth ∧ PlAt H v ∧ f < pr.length ∧ s.row.length ≤ most ∧ ∀ H', ButM x H H' → RoomAt K H' x pr told { s with row := s.row ++ [f] } oth → Q .non H'
def spBackR (K : PySem.W.Frag) : Sp := fun vs H Q _ => ∃ (x : PR) (pr : List (Int × W)) (told : V) (s : RS) (oth : Int) (p : Addr) (f w : Nat), vs = [.ref x.a, .ref p] ∧ H p = some (.tup [.int (f : Int), .int (w : Int)]) ∧ RoomAt K H x pr told s oth ∧ f < pr.length ∧ s.row.length ≤ most ∧ ∀ H', ButM x H H' → RoomAt K H' x pr told { s with row := s.row ++ [f] } oth → Q .non H'
def spCallR (K : PySem.W.Frag) (pr : List (Int × W)) (n : Nat) : Sp := fun vs H Q E => ∃ (x : PR) (told v : V) (s : RS) (oth : Int) (p : Addr) (c wi f : Nat) (a : Wt), vs = [.ref x.a, .ref p, .int (f : Int), v] ∧ H p = some (.tup [.int (c : Int), .int (wi : Int)]) ∧ RoomAt K H x pr told s oth ∧ PrOk pr ∧ c < pr.length ∧ f < pr.length ∧ PV H v a ∧ WtOk pr.length a ∧ s.phi ≤ most ∧ oth + (n : Int) = 12 ∧ AnsR K x pr told oth H Q E (evC pr n c f a s)
def spWorthR (K : PySem.W.Frag) (pr : List (Int × W)) (n d : Nat) : Sp := fun vs H Q E => ∃ (x : PR) (told v : V) (s : RS) (oth : Int) (f wi : Nat) (p : Int × W) (u : W) (a : Wt), vs = [.ref x.a, .int (f : Int), .int (wi : Int), v] ∧ RoomAt K H x pr told s oth ∧ PrOk pr ∧ pr[f]? = some p ∧ SubAt (p.2.rows 0) wi u ∧ WOk pr.length d u ∧ PV H v a ∧ WtOk pr.length a ∧ s.phi + u.size ≤ most ∧ oth + (n : Int) = 12 ∧ AnsR K x pr told oth H Q E (evB (evC pr n f) a d u s)
def spBeginR (K : PySem.W.Frag) : Sp := fun vs H Q _ => ∃ (x : PR) (pr : List (Int × W)) (z : Int), vs = [.ref x.a, .int z] ∧ RoomAt K H x pr .non ⟨[], 0, [], [], []⟩ 0 ∧ PrOk pr ∧ 0 ≤ z ∧ z < 1000 ∧
  ∀ H' t oth, ButM x H H' → RoomAt K H' x pr (.ref t) (evR pr z).st oth → H' t = some (.tup [.str (endD (evR pr z)).1, (endD (evR pr z)).2]) → Q .non H'
end Ov

/-! ### a run in a room: fresh places; a place among none; the hall looks -/
namespace Ov
open PySem PySem.Spec PyProof.Rows L2
theorem HallIn.markM {K : PySem.W.Frag} {H0 H Hx0 Hx : Hp} {x : HA} {wys : List (List Nat)} {L : List Lay} {lc lc' : List (Option Cnt)} {mv mv' : Int} {far : Nat} {r : Addr} {o : HO} (i0 : HallIn K Hx0 H0 x wys L lc mv far) (i : HallIn K Hx H x wys L lc' mv' far) (b : ∀ c u, c = x.wy ∨ c = x.lo → H0 c = some u → H c = some u) (hr : H0 r = none) (n1 : x.a ≠ r) (n2 : x.ly ≠ r) : HallIn K (upd Hx r o) H x wys L lc' mv' far := by
  obtain ⟨⟨g1, ⟨ws0, g2, g3⟩, ⟨ls0, g4, g5⟩, _, _, _, _, _⟩, _, _⟩ := i0
  obtain ⟨⟨h1, ⟨ws, h2, h3⟩, ⟨ls, h4, h5⟩, h6, f1, f2, f3, f4⟩, k1, k2⟩ := i
  have e1 := HO.lst.inj (Option.some.inj ((b _ _ (.inl rfl) g2).symm.trans h2))
  have e2 := HO.lst.inj (Option.some.inj ((b _ _ (.inr rfl) g4).symm.trans h4))
  obtain rfl : ws0 = ws := (List.map_inj_right (fun a b e => V.ref.inj e)).mp e1
  obtain rfl : ls0 = ls := (List.map_inj_right (fun a b e => V.ref.inj e)).mp e2
  have keep : ∀ {c : Addr}, c ≠ r → Hx c = none → (upd Hx r o) c = none := fun n e => by
    rw [upd_ne n]
    exact e
  refine ⟨⟨h1, ⟨ws0, h2, PairedMem.map h3 fun c w hc z => ⟨z.1, keep ?_ z.2.1, z.2.2⟩⟩, ⟨ls0, h4, PairedMem.map h5 fun c l hc z => ⟨z.1, keep ?_ z.2.1, z.2.2⟩⟩, h6, keep n1 f1, ⟨keep (ne_of_none g2 hr) f2.1, f2.2⟩, ⟨keep (ne_of_none g4 hr) f3.1, f3.2⟩, keep n2 f4⟩, k1, k2⟩
  · obtain ⟨w', z', _⟩ := PairedMem.left g3 c hc
    exact ne_of_none z' hr
  · obtain ⟨w', ⟨us, z', _⟩, _⟩ := PairedMem.left g5 c hc
    exact ne_of_none z' hr
theorem RoomG.fresh {K : PySem.W.Frag} {H0 H : Hp} {x : PR} {pr : List (Int × W)} {told told0 : V} {s s0 : RS} {oth oth0 : Int} {r2 r20 : List Nat} {D : Addr} {us us' : List V} (h0 : RoomG K H0 x pr told0 s0 oth0 r20) (hD : H0 D = none) (b : ButM x H0 H) (h : RoomG K H x pr told s oth r2) (e : H D = some (.lst us)) : RoomG K (upd H D (.lst us')) x pr told s oth r2 := by
  have kt := Keep.updL (ys := us') e
  obtain ⟨n1, n2, n3, n4, n5⟩ := h0.nown hD
  obtain ⟨bs0, g2, g3, g4⟩ := h0.bo
  obtain ⟨mv0, gh⟩ := h0.hob
  obtain ⟨Hx0, i0, q1, q2, q3⟩ := h0.hl
  obtain ⟨h1, ⟨bs, h2, h3, h4⟩, h5, h6, nn, d, ⟨Hx, i, m1, m2, m3⟩, l⟩ := h
  have nba : x.bo ≠ x.a := ne_of g2 h0.ob (by intro z; cases z)
  have nbh : x.bo ≠ x.hx.a := ne_of g2 gh (by intro z; cases z)
  have e2 := b _ _ nba nn.1.1 nn.1.2.1 nbh nn.1.2.2 g2
  obtain rfl : bs0 = bs := (List.map_inj_right (fun a b e => V.ref.inj e)).mp (HO.lst.inj (Option.some.inj (e2.symm.trans h2)))
  have nk : ∀ {c : Addr} {l : List (Key × V)}, H c = some (.dK l) → c ≠ D := fun z => ne_of z e (by intro y; cases y)
  have hbw : ∀ c u, c = x.hx.wy ∨ c = x.hx.lo → H0 c = some u → H c = some u := by
    obtain ⟨ws0, w2, _⟩ := i0.at_.wy
    obtain ⟨ls0, w4, _⟩ := i0.at_.lo
    intro c u hc hu
    have hxn : Hx0 c = none := by
      rcases hc with rfl | rfl
      · exact i0.at_.fw.1
      · exact i0.at_.fl.1
    have nly : c ≠ x.hx.ly := by
      rcases hc with rfl | rfl
      · exact i0.at_.fw.2
      · exact i0.at_.fl.2
    have nha : c ≠ x.hx.a := by
      rcases hc with rfl | rfl
      · exact ne_of w2 gh (by intro z; cases z)
      · exact ne_of w4 gh (by intro z; cases z)
    exact b c u (fun z => q1 (by rw [← z]; exact hxn)) (fun z => q2 (by rw [← z]; exact hxn)) (fun z => q3 (by rw [← z]; exact hxn)) nha nly hu
  have im := HallIn.markM (o := .tup []) i0 i hbw hD n4.symm n5.symm
  have up : ∀ {p : Addr}, Hx p ≠ none → (upd Hx D (.tup [])) p ≠ none := fun {p} z => by
    by_cases c : p = D
    · rw [c, upd_same]
      exact fun y => nomatch y
    · rw [upd_ne c]
      exact z
  refine ⟨by rw [upd_ne n1.symm]; exact h1, ⟨bs0, by rw [upd_ne (ne_of_none g2 hD)]; exact h2, PairedMem.map h3 fun c f hc z => ?_, h4⟩, by rw [upd_ne n2.symm]; exact h5, by rw [upd_ne n3.symm]; exact h6, nn, ⟨by rw [upd_ne (nk d.1)]; exact d.1, by rw [upd_ne (nk d.2)]; exact d.2⟩, ⟨_, im.own (by rw [upd_same]; exact fun y => nomatch y) kt, up m1, up m2, up m3⟩, l⟩
  obtain ⟨f0, ys0, z0, _⟩ := PairedMem.left g3 c hc
  obtain ⟨ys, z1, z2⟩ := z
  exact ⟨ys, by rw [upd_ne (ne_of_none z0 hD)]; exact z1, L2.Paired.mapP z2 fun _ _ y => y.keep kt⟩
/-! ### a place among the keys of an empty dict -/
section
variable {X : Cx} {pins : List (Addr × Obj)} {σ : L2.St} {H : Hp} {s : Shared} {a : Addr} {A : Around} {E : Value → Shared → Prop}
theorem in_empty {Q : Value → Shared → Prop} {v : V} {u : Value} (hu : A.units + 1 < cLine) (I : Inv X pins σ H s) (e : H a = some (.dK [])) (hv : PlAt H v) (r : L2.RelV v u) (h : ∀ s', Inv X pins σ H s' → Q (.bool false) s') : wpAny (model X.prog X.w) A (compareOp .In u (.ref a)) Q E s := by
  rcases hv with rfl | ⟨p, f, g, rfl, hp⟩
  · obtain rfl : u = Value.none := r
    exact d_inNone I (.inl e) h
  · obtain rfl : u = Value.ref p := r
    obtain ⟨_, hd, vs, kv, o, es, ep, h1, h2, h3, _, h5, _⟩ := dk_of I.hok e
    have ev : vs = [] := by
      cases kv
      rfl
    subst ev
    have ee : es.toList = [] := by
      cases hl : es.toList with
      | nil => rfl
      | cons a l =>
        rw [hl] at h5
        cases h5
    have D : s.heap.DictOfH (tupleKind (mixKind X.prog X.w)) a [] := ⟨o, es, ep, h1, h2, h3, ee, (fun _ z => nomatch z), List.nodup_nil⟩
    exact wpAny_in_heap (tupleKind_room_in1 hu) (key_of (ks := [.inl (f : Int), .inl (g : Int)]) I.hok hp) hd D (h _ (I.tok _))
end
/-- y in d, y a place or None, d empty -/
def tInE (ty td : TE) : TE := fun σ H Q => ty σ H fun y H1 => td σ H1 fun x H2 => ∃ a, x = .ref a ∧ H2 a = some (.dK []) ∧ PlAt H2 y ∧ Q (.bl false) H2
theorem pc_inE {X : Cx} {i o : Expr} {ty td : TE} (hu : X.A.units + 1 < cLine) (hi : PE X i ty) (ho : PE X o td) : PC X .In i o (tInE ty td) := by
  constructor
  intro pins s σ H Q I h
  refine thn (hi.run pins s σ H _ I h) fun iv s1 z1 => ?_
  obtain ⟨y, H1, I1, ry, q1⟩ := z1
  refine thn (ho.run pins s1 σ H1 _ I1 q1) fun u s2 z2 => ?_
  obtain ⟨x, H2, I2, rx, a, ex, ea, hy, q2⟩ := z2
  subst ex
  obtain rfl : u = Value.ref a := rx
  exact in_empty hu I2 ea hy ry fun s3 I3 => ⟨.bl false, H2, I3, rfl, q2⟩
theorem SupD.binds {P : Program} {K : PySem.W.Frag} {name qual : Str} {params : Arguments} {body : List Stmt} {scope : Scope} {f cc cda D : Addr} {fd : FuncData} {ps : List Str} (S : SupD P K name qual params body scope f cc cda D fd)
    (h : ∀ (doc pm : Value) (an : Option Addr) (ct : Value) (cl : List (Str × Addr)) (us : List Value), us.length = ps.length → bindArgs (PySem.W.fnX name qual params body scope [("__class__", cc)] .none .none doc pm an (.ref cda) ct) ⟨us, []⟩ = pure (ps.zip us)) : Binds K fd ps [] := by
  obtain ⟨oc, od, doc, pm, an, ct, osl, rfl, _⟩ := S.ex
  exact Binds.all fun us hl => h doc pm an ct [] us hl
/-! ### a run in a room is made -/
/-- as RunAt, of an object of the class RoomRun that bears Run's fields alone; H0: ahead of it -/
structure RunB (K : PySem.W.Frag) (H0 H : Hp) (x : PA) (pr : List (Int × W)) (told : V) (s : RS) (others : Int) : Prop where
  ob : H x.a = some (.ins (He.ga K "RoomRun") x.dx (runFs x told (s.calls : Int) others))
  bo : ∃ bs : List Addr, H x.bo = some (.lst (bs.map V.ref)) ∧ Paired (BodyAt H) bs pr ∧ ∀ b ∈ bs, b ≠ x.sa ∧ b ≠ x.ro ∧ H0 b = none
  sa : H x.sa = some (.lst (s.said.map V.int))
  ro : H x.ro = some (.lst (nV s.row))
  nd : x.bo ≠ x.sa ∧ x.bo ≠ x.ro ∧ x.sa ≠ x.ro
def spRunInitB (K : PySem.W.Frag) : Sp := fun vs H Q _ => ∃ (a dx : Addr) (v : V) (pr : List (Int × W)), vs = [.ref a, v] ∧ H a = some (.ins (He.ga K "RoomRun") dx []) ∧ PrAt H v pr ∧ PrOk pr ∧
  ∀ H' x, (∀ b o, b ≠ a → H b = some o → H' b = some o) → x.a = a → x.dx = dx → H x.sa = none → H x.ro = none → H x.bo = none → RunB K H H' x pr .non ⟨[], 0, [], [], []⟩ 0 → Q .non H'
/-- RoomRun(program, hall, [], []) -/
def spRoomInit (K : PySem.W.Frag) : Sp := fun vs H Q _ => ∃ (Hx : Hp) (a dx : Addr) (v : V) (pr : List (Int × W)) (hx : HA) (la lb : Addr) (wys : List (List Nat)) (L : List Lay) (n far : Nat), vs = [.ref a, v, .ref hx.a, .ref la, .ref lb] ∧ H a = some (.ins (He.ga K "RoomRun") dx []) ∧ H la = some (.lst []) ∧ H lb = some (.lst []) ∧ PrAt H v pr ∧ PrOk pr ∧
  HallIn K Hx H hx wys L (List.replicate n none) 0 far ∧ Hx a ≠ none ∧ wys.length = pr.length ∧
  ∀ H' x, (∀ b o, b ≠ a → H b = some o → H' b = some o) → x.a = a → x.hx = hx → x.wys = wys → x.L = L → x.n = n → x.far = far → H x.sa = none → H x.ro = none → RoomAt K H' x pr .non ⟨[], 0, [], [], []⟩ 0 → Q .non H'
theorem roomFs_new {x : PR} {c o : Int} {t : V} : putF "looks" (.int 0) (putF "back" (.ref x.db) (putF "ahead" (.ref x.da) (putF "hall" (.ref x.hx.a) (runFs x.toPA t c o)))) = roomFs x t c o 0 := by
  unfold runFs roomFs
  rw [putF_new (f := "hall") (by show (["bodies", "told", "said", "row", "calls", "others"] : List Str).contains "hall" = false; decide +kernel)]
  rw [putF_new (f := "ahead") (by show (["bodies", "told", "said", "row", "calls", "others", "hall"] : List Str).contains "ahead" = false; decide +kernel)]
  rw [putF_new (f := "back") (by show (["bodies", "told", "said", "row", "calls", "others", "hall", "ahead"] : List Str).contains "back" = false; decide +kernel)]
  rw [putF_new (f := "looks") (by show (["bodies", "told", "said", "row", "calls", "others", "hall", "ahead", "back"] : List Str).contains "looks" = false; decide +kernel)]
  rfl
/-! ### a run in a room, from its beginning -/
def spPlaces0 : Sp := fun vs H Q _ => ∃ (v : V) (pr : List (Int × W)) (la : Addr), vs = [v, .ref la] ∧ PrAt H v pr ∧ PrOk pr ∧ H la = some (.lst []) ∧ ∀ H', Same H H' → Q .non H'
def spRoomRun (K : PySem.W.Frag) : Sp := fun vs H Q _ => ∃ (v t : V) (pr : List (Int × W)) (ps : List (List Nat)) (st : List Int) (dn : Nat → List Nat) (far : Int) (room : Nat) (la lb : Addr) (z : Int), vs = [v, t, .int (room : Int), .ref la, .ref lb, .int z] ∧ preT H v t pr ps st ∧ Dn pr.length ps st dn ∧ Far pr ps dn far ∧ far ≤ (room : Int) ∧ room ≤ 64 ∧ H la = some (.lst []) ∧ H lb = some (.lst []) ∧ 0 ≤ z ∧ z < 1000 ∧
  ∀ H' (x : PR) tt oth cs, Same H H' → H x.sa = none → RoomAt K H' x pr (.ref tt) (evR pr z).st oth → H' tt = some (.tup [.str (endD (evR pr z)).1, (endD (evR pr z)).2]) → Cells pr ps dn cs → x.wys = waysF pr.length ps dn → x.L = laysF pr cs ps → x.n = room → x.far = far.toNat → HlOk x.wys x.L x.far → Q (.ref x.a) H'
/-- what a run brings in -/
def inR (pr : List (Int × W)) (ps : List (List Nat)) (dn : Nat → List Nat) (cs : List Int) (room : Nat) (z : Int) : Nat := costT (waysF pr.length ps dn) (laysF pr cs ps) room (evR pr z).st.row
def spRunIn : Sp := fun vs H Q _ => ∃ (v t : V) (pr : List (Int × W)) (ps : List (List Nat)) (st : List Int) (dn : Nat → List Nat) (far : Int) (room : Nat) (z : Int), vs = [v, t, .int (room : Int), .int z] ∧ preT H v t pr ps st ∧ Dn pr.length ps st dn ∧ Far pr ps dn far ∧ far ≤ (room : Int) ∧ room ≤ 64 ∧ 0 ≤ z ∧ z < 1000 ∧
  ∀ H' r tt sa cs, Same H H' → H sa = none → H' r = some (.tup [.ref tt, .ref sa, .int (inR pr ps dn cs room z : Nat)]) → H' tt = some (.tup [.str (endD (evR pr z)).1, (endD (evR pr z)).2]) → H' sa = some (.lst ((evR pr z).st.said.map V.int)) → Cells pr ps dn cs → HlOk (waysF pr.length ps dn) (laysF pr cs ps) far.toNat → Q (.ref r) H'
end Ov

/-! ### the law's own run in a hall, all looked at (k06): its record as data -/
namespace Ov
open PySem PySem.Spec PyProof.Rows L2
/-- the record's places, the hall's; what the hall is of -/
structure RX extends RA where
  hs : Addr
  fl : Addr
  hc : Addr
  tv : V
  ps : List (List Nat)
  st : List Int
  dn : Nat → List Nat
  cs : List Int
  n : Nat
  far : Nat
/-- what lies in the room when these functions were looked at in turn -/
def RX.sum (x : RX) (pr : List (Int × W)) (row : List Nat) : List (Option Cnt) × Nat := tsum (waysF pr.length x.ps x.dn) (laysF pr x.cs x.ps) (List.replicate x.n none, 0) row
def RX.own (x : RX) (Hx : Hp) : Prop := ∀ p, p = x.r ∨ p = x.sa ∨ p = x.tr ∨ p = x.ca ∨ p = x.to ∨ p = x.ah ∨ p = x.ba → Hx p ≠ none
section
variable {pr : List (Int × W)} {H H' H0 : Hp} {x : RX} {pv v : V} {s s0 : RS} {en en' en0 : V} {row2 row0 : List Nat} {o : HO}
end
end Ov
namespace Ov
open PySem PySem.Spec PyProof.Rows L2
end Ov

/-! ### a tuple times an int, one too (then it is the tuple itself) -/
namespace Ov
open PySem PySem.Spec PyProof.Rows L2
theorem tuple_mul1 (l : Addr) (items : Array Value) (n : Nat) (dd : Option Addr) (sl : Array (Option Value)) (u : Tok) :
    Meets (Builtin.«tuple.__mul__» ⟨[.ref l, .int 1 u], []⟩) (fun _ R s => s.heap.get? l = some { cls := .type "tuple", dict := dd, data := .seq items n, slots := sl } ∧
      R (.ok (.ret (Value.ref l))) s) :=
  .of_wp fun prog w A R s h => by
    obtain ⟨hp, g, d, tk, os⟩ := s
    obtain ⟨hl, h⟩ := h
    have f1 := AutoSeq1.idx_int
    have c1 : (items.isEmpty || (1 : Int) == 1) = true := by rw [Bool.or_eq_true]; exact .inr rfl
    wp_walk using wpAny_loadPart' hl
    repeat (first
      | (refine wpAny_ite_false (decide_eq_false (by decide)) ?_; wp_walk using wpAny_loadPart' hl)
      | (refine wpAny_ite_true (decide_eq_true (by rw [c1])) ?_; wp_walk using wpAny_loadPart' hl))
    exact ⟨_, rfl, h⟩
def rRepTA (K : PySem.W.Frag) : R2 := fun x y H Q => L2.rRepT K x y H Q ∨ ∃ l xs, x = .ref l ∧ y = .int 1 ∧ SqT K H l xs ∧ Q (.ref l) H
theorem op_repTA {X : Cx} : OpR X (binaryOp .Mult) (rRepTA X.K) := by
  intro pins s σ H x y v u Q I rx ry h
  rcases h with h | ⟨l, xs, rfl, rfl, hT, q⟩
  · exact op_repT pins s σ H x y v u Q I rx ry h
  cases rx
  obtain ⟨t, rfl⟩ := ry
  obtain ⟨its, r, ⟨⟨cls, dd, data, sl⟩, ho, hc, n, hd⟩, hs⟩ := I.tuple hT
  simp only at hc hd
  subst hc hd
  refine wpAny_binaryOp_repeat_ref (T := "tuple") (U := "int") (by decide) ⟨_, ho, rfl⟩ (fun s' => typeIs_int s' 1 t) noFill_tuple_mul F.fills_int_mul F.slot_int_rmul repeat_tuple F.slot_int_index.lookup
    (call_meets F.slot_int_rmul (typeIs_int s 1 t) F.entry_int_rmul (F.args_int_rmul_2 _ _) (int_rmul_tuple 1 t l its.toArray n dd sl)
      ⟨ho, rfl, ⟨_, ho, rfl⟩, call_meets F.slot_tuple_mul ⟨_, ho, rfl⟩ F.entry_tuple_mul (F.args_tuple_mul_2 _ _) (tuple_mul1 l its.toArray n dd sl t) ⟨ho, ?_⟩⟩)
  exact ⟨.ref l, H, I, rfl, q⟩
theorem repTA_by {K : PySem.W.Frag} {m1 : Addr} {n : Nat} {H : Hp} {Q : VK} (e : SqT K H m1 [.int (-1)]) (h1 : 1 ≤ n) (h : n ≤ 1000) (q : ∀ H' p, Same H H' → H' p = some (.tup ((List.replicate n (-1 : Int)).map V.int)) → Q (.ref p) H') (he : H m1 = some (.tup [.int (-1)])) : rRepTA K (.ref m1) (.int (n : Int)) H Q := by
  by_cases c : n = 1
  · subst c
    exact .inr ⟨m1, _, rfl, rfl, e, q H m1 (fun _ _ z => z) he⟩
  · refine .inl ⟨m1, (n : Int), _, rfl, rfl, e, (fun z => nomatch z), by omega, by omega, (by decide), fun p hp => q _ p (fun b o z => by rw [upd_ne (fun y => by rw [y, hp] at z; cases z)]; exact z) ?_⟩
    rw [upd_same, Int.toNat_natCast, List.flatten_replicate_singleton, List.map_replicate]
end Ov

/-! ### set(xs) of a list of ints, as a set that can be walked -/
namespace Ov
open PySem PySem.Spec PyProof.Rows L2
abbrev newSet (w : World) : Obj := { cls := .type "set", dict := none, data := .set #[] 0 (.fresh 0 0 (!w.params.followText "set-order")) }
abbrev hSet (w : World) (h : Heap) : Heap := h.push (newSet w)
section
variable {P : Program} {w : World} {A : Around} {E : Value → Shared → Prop} {s : Shared}
theorem hSet_at (h : Heap) : (hSet w h).get? h.objs.size = some (newSet w) := Heap.get?_push_size _ rfl
theorem hSet_old {h : Heap} {b : Addr} {o : Obj} (e : h.get? b = some o) : (hSet w h).get? b = some o := Heap.get?_push_of_some _ e
/-- what set.__init__ leaves -/
def SetDone (w : World) (s : Shared) (ns : List Int) (E : Value → Shared → Prop) : Result → Shared → Prop :=
  wants (fun r z => r = .none ∧ ∃ (h' : Heap) (tk c : Nat), z = { s with heap := h', toks := tk } ∧ SetR w h' s.heap.objs.size (fun j => decide (j ∈ ns)) c ∧ c ≤ ns.length ∧ ∀ b o, s.heap.get? b = some o → h'.get? b = some o) E
set_option maxHeartbeats 3200000 in
theorem set_init_list {l : Addr} {items : Array Value} {ns : List Int} (hh : A.handled = none) (hl : s.heap.IsList l items) (hit : IntsAre items.toList ns) (hb : ns.length + 1 < scanBound) :
    codeAny (model P w) A (.call (.builtin "set.__init__") ⟨[.ref s.heap.objs.size, .ref l], []⟩) (SetDone w s ns E) { s with heap := hSet w s.heap } := by
  have len : items.size = ns.length := by
    rw [← Array.length_toList]
    exact IntsAre.length hit
  have tyS : Shared.TypeIs { s with heap := hSet w s.heap } (.ref s.heap.objs.size) "set" := ⟨_, hSet_at s.heap, rfl⟩
  refine codeAny_call_builtin F.called_set.init.plain F.entry_set_init (check_set_init_1 tyS ?_)
  rcases hl with ⟨⟨lc, ld, lt, ls⟩, lo, lcl, nl, ldt⟩
  simp only at lcl ldt
  subst lcl ldt
  have lo2 := hSet_old (w := w) lo
  have isL : (hSet w s.heap).IsList l items := ⟨_, lo2, rfl, nl, rfl⟩
  have k1 := F.sub_list_set
  have k2 := F.sub_list_frozenset
  have k3 : (Value.type "list" == Value.type "dict") = false := by decide
  unfold Builtin.«set.__init__» noKeywords Builtin.Frozenset.updateFrom
  generalize hPI : pyIter = PI
  wp_walk
  subst hPI
  refine wpAny_pyIter_list isL (wpAny_bind (wpAny_runValue ?_))
  have ll : l < s.heap.objs.size := Heap.lt_size lo
  have sz : (hSet w s.heap).objs.size = s.heap.objs.size + 1 := Heap.size_push ..
  have hne : l ≠ (hSet w s.heap).objs.size := by
    rw [sz]
    exact Nat.ne_of_lt (Nat.lt_succ_of_lt ll)
  refine set_update_ints ((Walks.list ?hh _ l hne items).toS) s.heap.objs.size (fun z => ?_) ns len hb (fun i v hv => ?_) (items.size - 0) 0 _ (by omega) (Nat.zero_le _) ⟨⟨_, Heap.get?_push_size _ rfl, rfl, rfl⟩, isL.push _⟩ ⟨0, Nat.le_refl 0, setR_new_at (Heap.get?_push_of_some _ (hSet_at s.heap))⟩ ?_
  case hh => simp [hh]
  · rcases List.mem_cons.mp z with z | z
    · rw [sz] at z
      exact Nat.ne_of_lt (Nat.lt_succ_self _) z
    · exact Nat.ne_of_gt ll (List.mem_singleton.mp z)
  · have hi : i < ns.length := by
      rw [← len]
      exact (Array.getElem?_eq_some_iff.mp hv).1
    obtain ⟨t, e⟩ := PyProof.Rows.IntsAre.int_at hit i v (by rw [Array.getElem?_toList]; exact hv)
    refine ⟨ns[i], t, List.getElem?_eq_getElem hi, ?_⟩
    rw [e, List.getD_eq_getElem?_getD, List.getElem?_eq_getElem hi] <;> rfl
  · rintro ⟨h', g', d', tk', os'⟩ c' mv le R
    obtain rfl : g' = s.gens := mv.gens
    obtain rfl : d' = s.drawn := mv.drawn
    obtain rfl : os' = s.os := mv.os
    show wpAny _ _ _ _ _ _
    refine wpAny_pure ?_
    show wpAny _ _ (ret Value.none) _ _ _
    refine wpAny_pure ⟨rfl, h', tk', c', rfl, R, by omega, fun b o e => ?_⟩
    have lb : b < s.heap.objs.size := Heap.lt_size e
    refine mv.heap b o (fun z => ?_) (Heap.get?_push_of_some _ (hSet_old e))
    rcases List.mem_cons.mp z with z | z
    · exact Nat.ne_of_lt lb z
    · have z2 := List.mem_singleton.mp z
      rw [sz] at z2
      exact Nat.ne_of_lt (Nat.lt_succ_of_lt lb) z2
set_option maxHeartbeats 3200000 in
theorem call_set_listI {l : Addr} {items : Array Value} (ns : List Int) {Q : Value → Shared → Prop} (hh : A.handled = none) (hl : s.heap.IsList l items) (hit : IntsAre items.toList ns) (hb : ns.length + 1 < scanBound)
    (h : ∀ (h' : Heap) (tk c : Nat), SetR w h' s.heap.objs.size (fun j => decide (j ∈ ns)) c → c ≤ ns.length → (∀ b o, s.heap.get? b = some o → h'.get? b = some o) → Q (.ref s.heap.objs.size) { s with heap := h', toks := tk }) :
    wpAny (model P w) A (call (.type "set") [.ref l]) Q E s := by
  rcases F.called_set.mro with ⟨c, tl, hmro⟩
  have q1 := F.called_set.made
  have q2 := F.called_set.sub
  have q3 := F.called_set.notType
  have q4 := F.called_set.canCreate
  have q5 := F.typeCall_set_1 (.ref l)
  refine wpAny_call (codeAny_of_tree (show wpAny _ _ (callAny (.type "set") _) _ _ _ from ?_))
  refine wpAny_pure ⟨Code.quiet_builtin _ (by decide +kernel), codeAny_builtin F.entry_type_call ?_⟩
  rw [Around.under_plain (weight_type_call_type "set" [.ref l] []) rfl]
  repeat (any_goals (first | assumption | wp_step))
  refine codeAny_mono (code_set_led1 (.ref l) (E := E) (Q₁ := fun obj z => obj = .ref s.heap.objs.size ∧ z = { s with heap := hSet w s.heap }) ⟨rfl, rfl⟩) fun r z hr => ?_
  match r, hr with
  | .error e, hr => exact hr
  | .ok (.ret obj), hr =>
    obtain ⟨rfl, rfl⟩ := hr
    have tyS : Shared.TypeIs { s with heap := hSet w s.heap } (.ref s.heap.objs.size) "set" := ⟨_, hSet_at s.heap, rfl⟩
    have q6 := F.called_set.init.lookup
    have q7 := F.called_set.init.bind (.ref s.heap.objs.size)
    repeat (any_goals (first | assumption | wp_step))
    refine codeAny_mono (set_init_list (E := E) (by simp [hh]) hl hit hb) fun r2 z2 hr2 => ?_
    match r2, hr2 with
    | .error e, hr2 => exact hr2
    | .ok (.ret v), hr2 =>
      obtain ⟨rfl, h', tk, c', rfl, g1, g2, g3⟩ := hr2
      repeat (any_goals (first | assumption | wp_step))
      exact h _ _ _ g1 g2 g3
    | .ok .next, hr2 => exact hr2.elim
    | .ok .brk, hr2 => exact hr2.elim
    | .ok .cont, hr2 => exact hr2.elim
  | .ok .next, hr => exact hr.elim
  | .ok .brk, hr => exact hr.elim
  | .ok .cont, hr => exact hr.elim
end
/-- set(xs), xs a list of ints -/
def rSetL (K : PySem.W.Frag) (w : World) : List V → Hp → VK → Prop := fun xs H Q => ∃ (l : Addr) (ns : List Int), xs = [V.ref l] ∧ SqL K H l (ns.map V.int) ∧ ns.length ≤ 4000 ∧ ∀ (p : Addr) (us : List Int), H p = none → us.Nodup → (∀ j, j ∈ us ↔ j ∈ ns) → Q (.ref p) (upd H p (SetO w p (fun j => decide (j ∈ ns)) us.length))
theorem cr_setL {X : Cx} (hc : X.calm = true) : CallR X (.type "set") (rSetL X.K X.w) := by
  intro pins s σ H xs us Q I r h
  obtain ⟨l, ns, rfl, hl, hz, q⟩ := h
  rw [Vals.ref1 r]
  obtain ⟨its, rv, pl, _⟩ := I.list hl
  refine call_set_listI ns (I.ok.hd hc) pl.isList (by simpa using rv.ints) (by unfold scanBound; omega) fun h' tk c R le k => ?_
  obtain ⟨o, es, ep, tb, _, _, _, _, nd, hm, _, _, hn, _⟩ := id R
  have ec : (es.toList.map keyOf).length = c := by
    rw [List.length_map, Array.length_toList]
    exact hn
  have z := q s.heap.objs.size (es.toList.map keyOf) (I.hok.fresh (Nat.le_refl _)) nd fun j => (hm j).symm.trans decide_eq_true_iff
  rw [ec] at z
  exact ⟨.ref s.heap.objs.size, _, I.laid (t' := tk) k (Nat.le_refl _) (setO_new R), rfl, z⟩
end Ov

/-! ### what is worked out without a write: values by what is true of them -/
namespace Ov
open PySem PySem.Spec PyProof.Rows L2
abbrev VP := Hp → V → Prop
section
variable {σ : L2.St} {Pre : Hp → Prop} {ta tb te : TE} {t : TA} {A B : VP} {As : List VP}
end
end Ov

/-! ### papers as data -/
namespace Ov
open PySem PySem.Spec PyProof.Rows L2
/-- what may be: whether a number, ways to which functions -/
abbrev Wo := Bool × List Nat
def Wo.has (a : Wo) : Wt → Prop
  | .num _ => a.1 = true
  | .way f => f ∈ a.2
def Wo.le (a b : Wo) : Prop := ∀ x, a.has x → b.has x
abbrev no : Wo := (false, [])
abbrev nu : Wo := (true, [])
def uni (a b : Wo) : Wo := (a.1 || b.1, (List.range 8).filter fun k => decide (k ∈ a.2 ∨ k ∈ b.2))
/-- rising, of functions below n -/
structure WoOk (n : Nat) (a : Wo) : Prop where
  up : a.2.Pairwise (· < ·)
  lt : ∀ k ∈ a.2, k < n
theorem no_ok (n : Nat) : WoOk n no := ⟨.nil, fun _ h => nomatch h⟩
theorem Wo.le.refl (a : Wo) : a.le a := fun _ h => h
theorem Wo.le.trans {a b c : Wo} (h : a.le b) (g : b.le c) : a.le c := fun x z => g x (h x z)
theorem sorted_sub : ∀ (m l : List Nat), l.Pairwise (· < ·) → m.Pairwise (· < ·) → (∀ x ∈ l, x ∈ m) → l.Sublist m
  | [], l, _, _, h => by
    cases l with
    | nil => exact .slnil
    | cons a l => exact absurd (h a List.mem_cons_self) (fun z => nomatch z)
  | b :: m, l, hl, hm, h => by
    cases l with
    | nil => exact List.nil_sublist _
    | cons a l =>
      have pl := List.pairwise_cons.mp hl
      have pm := List.pairwise_cons.mp hm
      by_cases e : a = b
      · subst e
        refine .cons₂ _ (sorted_sub m l pl.2 pm.2 fun x hx => ?_)
        rcases List.mem_cons.mp (h x (List.mem_cons_of_mem _ hx)) with z | z
        · have := pl.1 x hx; omega
        · exact z
      · refine .cons _ (sorted_sub m (a :: l) hl pm.2 fun x hx => ?_)
        have am : a ∈ m := by
          rcases List.mem_cons.mp (h a List.mem_cons_self) with z | z
          · exact absurd z e
          · exact z
        have ab := pm.1 a am
        rcases List.mem_cons.mp (h x hx) with z | z
        · rcases List.mem_cons.mp hx with y | y
          · rw [y]; exact am
          · have := pl.1 x y; omega
        · exact z
def Wo.sz (a : Wo) : Nat := (if a.1 then 1 else 0) + a.2.length
theorem Wo.le.sub {a b : Wo} {n : Nat} (ha : WoOk n a) (hb : WoOk n b) (h : a.le b) : a.2.Sublist b.2 := sorted_sub _ _ ha.up hb.up fun x hx => h (.way x) hx
theorem Wo.le.sz {a b : Wo} {n : Nat} (ha : WoOk n a) (hb : WoOk n b) (h : a.le b) : a.sz ≤ b.sz := by
  have h1 := (h.sub ha hb).length_le
  have h2 := h (.num 0)
  unfold Wo.sz
  simp only [Wo.has] at h2
  cases e : a.1 <;> cases e2 : b.1 <;> simp_all <;> omega
theorem Wo.le.eq {a b : Wo} {n : Nat} (ha : WoOk n a) (hb : WoOk n b) (h : a.le b) (g : b.sz ≤ a.sz) : a = b := by
  have h1 := (h.sub ha hb).length_le
  have h2 := h (.num 0)
  unfold Wo.sz at g
  simp only [Wo.has] at h2
  have e1 : a.1 = b.1 := by cases e : a.1 <;> cases e2 : b.1 <;> simp_all <;> omega
  rw [e1] at g
  exact Prod.ext e1 ((h.sub ha hb).eq_of_length_le (by omega))
theorem Wo.sz_le {a : Wo} {n : Nat} (ha : WoOk n a) (n8 : n ≤ 8) : a.sz ≤ 9 := by
  have h : a.2.Sublist (List.range 8) := sorted_sub _ _ ha.up List.pairwise_lt_range fun x hx => List.mem_range.mpr (by have := ha.lt x hx; omega)
  have := h.length_le
  rw [List.length_range] at this
  unfold Wo.sz
  split <;> omega
/-! words -/
abbrev Pap := List (Wo × Wo)
def Pap.came (p : Pap) (f : Nat) : Wo := (p.getD f (no, no)).1
def Pap.tells (p : Pap) (f : Nat) : Wo := (p.getD f (no, no)).2
structure PapOk (n : Nat) (p : Pap) : Prop where
  len : p.length = n
  ok : ∀ x ∈ p, WoOk n x.1 ∧ WoOk n x.2
theorem PapOk.came {n : Nat} {p : Pap} (h : PapOk n p) (f : Nat) : WoOk n (p.came f) := by
  unfold Pap.came
  rw [List.getD_eq_getElem?_getD]
  cases e : p[f]? with
  | none => exact no_ok n
  | some x => exact (h.ok x (List.mem_of_getElem? e)).1
theorem PapOk.tells {n : Nat} {p : Pap} (h : PapOk n p) (f : Nat) : WoOk n (p.tells f) := by
  unfold Pap.tells
  rw [List.getD_eq_getElem?_getD]
  cases e : p[f]? with
  | none => exact no_ok n
  | some x => exact (h.ok x (List.mem_of_getElem? e)).2
def unis (p : Pap) (fs : List Nat) : Wo := fs.foldl (fun t f => uni t (p.tells f)) no
/-- what a word may be, by what its arms may be -/
def wop (p : Pap) (c : Wo) (o : Op) (g : Int) (ws : List Wo) : Wo := match o with
  | .arg => c
  | .way => (false, [g.toNat])
  | .ife => uni (ws.getD 1 no) (ws.getD 2 no)
  | .thn => ws.getD 1 no
  | .call => unis p [g.toNat]
  | .through => unis p (ws.getD 0 no).2
  | _ => nu
abbrev Row := Op × Int × List Nat
/-- what the words from the b-th on may be -/
def sol (p : Pap) (c : Wo) : Nat → List Row → List Wo
  | _, [] => []
  | b, r :: rs => wop p c r.1 r.2.1 (r.2.2.map fun j => (sol p c (b + 1) rs).getD (j - (b + 1)) no) :: sol p c (b + 1) rs
/-! what is entered, what is handed on -/
def ents (full : List Wo) (r : Row) : List Nat := match r.1 with
  | .call => [r.2.1.toNat]
  | .through => (full.getD (r.2.2.getD 0 0) no).2
  | _ => []
def hand (rows : List Row) (full : List Wo) : List (Nat × Wo) := rows.flatMap fun r => (ents full r).map fun c => (c, full.getD (r.2.2.getLastD 0) no)
def step1 (cm : List Wo) (x : Nat × Wo) : List Wo := cm.set x.1 (uni (cm.getD x.1 no) x.2)
def askF (p : Pap) (st : List Wo × List Wo) (f : Nat) (b : W) : List Wo × List Wo :=
  if p.came f = no then st else
    ((hand (b.rows 0) (sol p (p.came f) 0 (b.rows 0))).foldl step1 st.1, st.2.set f ((sol p (p.came f) 0 (b.rows 0)).getD 0 no))
def askL (p : Pap) : Nat → List W → List Wo × List Wo → List Wo × List Wo
  | _, [], st => st
  | f, b :: bs, st => askL p (f + 1) bs (askF p st f b)
def asked (bs : List W) (p : Pap) : Pap := let st := askL p 0 bs ((List.replicate bs.length no).set 0 nu, List.replicate bs.length no)
  st.1.zip st.2
end Ov

/-! ### papers in the heap -/
namespace Ov
open PySem PySem.Spec PyProof.Rows L2
/-- a tuple, laid or of the top -/
def TupAt (K : PySem.W.Frag) (H : Hp) (a : Addr) (xs : List V) : Prop := H a = some (.tup xs) ∨ ∀ H', SqT K H' a xs
theorem TupAt.sq {K : PySem.W.Frag} {H : Hp} {a : Addr} {xs : List V} (h : TupAt K H a xs) : SqT K H a xs := by
  rcases h with h | h
  · exact SqT.of h
  · exact h H
theorem TupAt.keep {K : PySem.W.Frag} {H H' : Hp} {a : Addr} {xs : List V} (k : Keep H H') (h : TupAt K H a xs) : TupAt K H' a xs := by
  rcases h with h | h
  · exact .inl (k _ _ h)
  · exact .inr h
section
variable {K : PySem.W.Frag} {H H' : Hp} {v : V}
end
/-! as data that is compared -/
section
variable {K : PySem.W.Frag} {H : Hp}
end
theorem eqvAll_map {α : Type} [DecidableEq α] {d : α → PyData} (h : ∀ x y, PyData.eqv (d x) (d y) = decide (x = y)) : ∀ l m : List α, PyData.eqvAll (l.map d) (m.map d) = decide (l = m)
  | [], [] => by simp [PyData.eqvAll]
  | [], _ :: _ => by simp [PyData.eqvAll]
  | _ :: _, [] => by simp [PyData.eqvAll]
  | x :: l, y :: m => by
    show (PyData.eqv (d x) (d y) && PyData.eqvAll (l.map d) (m.map d)) = _
    rw [h, eqvAll_map h l m]
    simp [Bool.decide_and]
/-! set(xs), xs a tuple of ints -/
theorem WoOk.len {n : Nat} {a : Wo} (h : WoOk n a) (n8 : n ≤ 8) : a.2.length ≤ 8 := by
  have := Wo.sz_le h n8
  have h2 : a.2.Sublist (List.range 8) := sorted_sub _ _ h.up List.pairwise_lt_range fun x hx => List.mem_range.mpr (by have := h.lt x hx; omega)
  have := h2.length_le
  rwa [List.length_range] at this
/-- what is known of a body when the words from the k-th on are done -/
def known (p : Pap) (c : Wo) (rows : List Row) (k : Nat) : List Wo := List.replicate k no ++ sol p c k (rows.drop k)
/-! promises -/
end Ov

/-! ### papers: what is asked for rises with the paper; what comes in a run is in a paper that asks for itself -/
namespace Ov
open PySem PySem.Spec PyProof.Rows L2
def Pap.le (p q : Pap) : Prop := ∀ f, (p.came f).le (q.came f) ∧ (p.tells f).le (q.tells f)
section
variable {pr : List (Int × W)} {p q : Pap}
theorem Pap.none {n f : Nat} (hp : PapOk n p) (hf : n ≤ f) : p.came f = no ∧ p.tells f = no := by
  unfold Pap.came Pap.tells
  rw [List.getD_eq_getElem?_getD, List.getElem?_eq_none (by rw [hp.len]; exact hf)]
  exact ⟨rfl, rfl⟩
/-! the climb -/
def Pap.sz (p : Pap) : Nat := (p.map fun s => s.1.sz + s.2.sz).sum
theorem pap_sz_le : ∀ {p q : Pap} {n : Nat}, (∀ x ∈ p, WoOk n x.1 ∧ WoOk n x.2) → (∀ x ∈ q, WoOk n x.1 ∧ WoOk n x.2) → p.length = q.length → (∀ f : Nat, ((p.getD f (no, no)).1).le (q.getD f (no, no)).1 ∧ ((p.getD f (no, no)).2).le (q.getD f (no, no)).2) → p.sz ≤ q.sz ∧ (q.sz ≤ p.sz → p = q)
  | [], [], _, _, _, _, _ => ⟨Nat.le_refl _, fun _ => rfl⟩
  | [], _ :: _, _, _, _, h, _ => by cases h
  | _ :: _, [], _, _, _, h, _ => by cases h
  | x :: p, y :: q, n, hp, hq, hl, h => by
    have ih := pap_sz_le (p := p) (q := q) (n := n) (fun z hz => hp z (List.mem_cons_of_mem _ hz)) (fun z hz => hq z (List.mem_cons_of_mem _ hz)) (Nat.succ.inj hl) fun f => h (f + 1)
    have h0 : x.1.le y.1 ∧ x.2.le y.2 := h 0
    have ox := hp x List.mem_cons_self
    have oy := hq y List.mem_cons_self
    have s1 := h0.1.sz ox.1 oy.1
    have s2 := h0.2.sz ox.2 oy.2
    have ex : Pap.sz (x :: p) = (x.1.sz + x.2.sz) + Pap.sz p := by unfold Pap.sz; rw [List.map_cons, List.sum_cons]
    have ey : Pap.sz (y :: q) = (y.1.sz + y.2.sz) + Pap.sz q := by unfold Pap.sz; rw [List.map_cons, List.sum_cons]
    rw [ex, ey]
    refine ⟨by omega, fun g => ?_⟩
    rw [ih.2 (by omega), Prod.ext (h0.1.eq ox.1 oy.1 (by omega)) (h0.2.eq ox.2 oy.2 (by omega))]
theorem Pap.le.climb {n : Nat} (hp : PapOk n p) (hq : PapOk n q) (h : p.le q) (ne : q ≠ p) : p.sz < q.sz := by
  have z := pap_sz_le hp.ok hq.ok (by rw [hp.len, hq.len]) h
  rcases Nat.lt_or_ge p.sz q.sz with g | g
  · exact g
  · exact absurd (z.2 g).symm ne
end
end Ov

/-! ### papers judged: promises -/
namespace Ov
open PySem PySem.Spec PyProof.Rows L2
theorem TupAt.ty {K : PySem.W.Frag} {H : Hp} {a : Addr} {xs : List V} (h : TupAt K H a xs) : TyX K H (.ref a) (.type "tuple") := by
  rcases h with h | h
  · exact .base (.tup h)
  · rcases h (fun _ => none) with z | ⟨o, its, n, e, c, _⟩
    · rcases z with z | ⟨o, z⟩ <;> cases z
    · exact .kTuple e c
/-! what comes in a run -/
section
variable {pr : List (Int × W)} {p : Pap}
end
end Ov

/-! ### a paper's rows as lists that are written (k08, k09) -/
namespace Ov
open PySem PySem.Spec PyProof.Rows L2
theorem slA_by {K : PySem.W.Frag} {a : Addr} {xs : List V} {lo hi : Option Int} {H : Hp} {Q : VK} (ha : TupAt K H a xs) (q : ∀ H' p, Same H H' → TupAt K H' p (cutV xs lo hi) → Q (.ref p) H') : rSlA K (.ref a) lo hi H Q := by
  refine ⟨a, xs, rfl, ha.sq, fun ⟨h1, h2⟩ => q H a (Same.refl H) ?_, fun _ p hp => q _ p (Same.new hp) (.inl upd_same)⟩
  unfold cutV
  rw [h1, h2, List.drop_zero, Nat.sub_zero, List.take_length]
  exact ha
section
variable {K : PySem.W.Frag} {H H' : Hp} {h c a : Addr} {bs : List Addr} {q : Pap}
end
end Ov

/-! ### trees of which nothing overlays anything: what they cost (k07) -/
namespace Ov
open PySem PySem.Spec PyProof.Rows L2
section
variable {wys : List (List Nat)} {L : List Lay} {far : Nat}
/-- the parts that are there, where none lies on another's cells -/
structure BrQ (L : List Lay) (B : List Nat) (l : List (Option Cnt)) (c : Nat) : Prop where
  nd : B.Nodup
  all : ∀ q, lyr L q ≠ [] → (Has l (lyr L q) = true ↔ q ∈ B)
  ne : ∀ q ∈ B, lyr L q ≠ []
  eq : c = siz L B
theorem BrQ.step (mk : Marks L) (ok : HlOk wys L far) (ap : ∀ q r, q ≠ r → Apart (lyr L q) (lyr L r)) (pos : ∀ f : Nat, ∀ q ∈ (wys[f]?.getD [] : List Nat), lyr L q ≠ []) {B : List Nat} {s : List (Option Cnt) × Nat} (lf : far ≤ s.1.length) (h : BrQ L B s.1 s.2) (f : Nat) :
    ∃ B', BrQ L B' (tstep wys L s f).1 (tstep wys L s f).2 ∧ ∀ q, q ∈ B' ↔ q ∈ B ∨ q ∈ (wys[f]?.getD [] : List Nat) := by
  obtain ⟨h1, h2, h3, h4⟩ := h
  have mm : ∀ q, q ∈ mis s.1 L (wys[f]?.getD []) ↔ q ∈ (wys[f]?.getD [] : List Nat) ∧ q ∉ B := fun q => by
    unfold mis
    rw [List.mem_filter]
    constructor
    · rintro ⟨a, b⟩
      refine ⟨a, fun z => ?_⟩
      rw [(h2 q (pos f q a)).mpr z] at b
      cases b
    · rintro ⟨a, b⟩
      refine ⟨a, ?_⟩
      cases e : Has s.1 (lyr L q) with
      | false => rfl
      | true => exact absurd ((h2 q (pos f q a)).mp e) b
  have mem : ∀ q, q ∈ B ++ mis s.1 L (wys[f]?.getD []) ↔ q ∈ B ∨ q ∈ (wys[f]?.getD [] : List Nat) := fun q => by
    rw [List.mem_append, mm]
    constructor
    · rintro (a | a)
      · exact .inl a
      · exact .inr a.1
    · rintro (a | a)
      · exact .inl a
      · by_cases c : q ∈ B
        · exact .inl c
        · exact .inr ⟨a, c⟩
  refine ⟨B ++ mis s.1 L (wys[f]?.getD []), ⟨?_, fun q hq => ?_, fun q hq => ?_, ?_⟩, mem⟩
  · exact List.nodup_append.mpr ⟨h1, (way_nd ok f).sublist List.filter_sublist, fun a ha b hb z => ((mm b).mp hb).2 (z ▸ ha)⟩
  · constructor
    · intro hh
      rcases has_of mk ok lf hh with z | ⟨z, _⟩
      · exact List.mem_append_right _ z
      · exact List.mem_append_left _ ((h2 q hq).mp z)
    · intro hh
      rcases (mem q).mp hh with z | z
      · refine brgs_keep _ _ (fun r hr => ap q r fun e => ?_) ((h2 q hq).mpr z)
        subst e
        exact ((mm q).mp hr).2 z
      · exact look_has' ok lf z
  · rcases (mem q).mp hq with z | z
    · exact h3 q z
    · exact pos f q z
  · show s.2 + siz L _ = _
    rw [siz_app, h4]
theorem BrQ.all_ (mk : Marks L) (ok : HlOk wys L far) (ap : ∀ q r, q ≠ r → Apart (lyr L q) (lyr L r)) (pos : ∀ f : Nat, ∀ q ∈ (wys[f]?.getD [] : List Nat), lyr L q ≠ []) : ∀ (ns : List Nat) {B : List Nat} {s : List (Option Cnt) × Nat}, far ≤ s.1.length → BrQ L B s.1 s.2 →
    ∃ B', BrQ L B' (tsum wys L s ns).1 (tsum wys L s ns).2 ∧ ∀ q, q ∈ B' ↔ q ∈ B ∨ ∃ f ∈ ns, q ∈ (wys[f]?.getD [] : List Nat)
  | [], B, s, _, h => ⟨B, h, fun q => ⟨.inl, fun z => z.elim id fun ⟨_, z, _⟩ => nomatch z⟩⟩
  | f :: r, B, s, lf, h => by
    obtain ⟨B1, a1, a2⟩ := h.step mk ok ap pos lf f
    obtain ⟨B2, b1, b2⟩ := BrQ.all_ mk ok ap pos r (s := tstep wys L s f) (by rw [tstep_len]; exact lf) a1
    refine ⟨B2, b1, fun q => ?_⟩
    rw [b2, a2]
    constructor
    · rintro ((z | z) | ⟨g, hg, z⟩)
      · exact .inl z
      · exact .inr ⟨f, List.mem_cons_self, z⟩
      · exact .inr ⟨g, List.mem_cons_of_mem _ hg, z⟩
    · rintro (z | ⟨g, hg, z⟩)
      · exact .inl (.inl z)
      · rcases List.mem_cons.mp hg with rfl | hg
        · exact .inl (.inr z)
        · exact .inr ⟨g, hg, z⟩
theorem BrQ.new {n : Nat} : BrQ L [] (List.replicate n none) 0 := by
  refine ⟨List.nodup_nil, fun q ne => ⟨fun h => ?_, fun z => nomatch z⟩, (fun _ z => nomatch z), rfl⟩
  cases e : lyr L q with
  | nil => exact absurd e ne
  | cons a l =>
    have z := has_iff.mp h a (by rw [e]; exact List.mem_cons_self)
    rw [List.getElem?_replicate] at z
    split at z <;> cases z
/-- each part once -/
theorem apart_cost (mk : Marks L) (ok : HlOk wys L far) (ap : ∀ q r, q ≠ r → Apart (lyr L q) (lyr L r)) (pos : ∀ f : Nat, ∀ q ∈ (wys[f]?.getD [] : List Nat), lyr L q ≠ []) {n : Nat} (hn : far ≤ n) (ns : List Nat) {C : List Nat} (hC : C.Nodup) (hc : ∀ q, q ∈ C ↔ ∃ f ∈ ns, q ∈ (wys[f]?.getD [] : List Nat)) : costT wys L n ns = siz L C := by
  obtain ⟨B, b, hb⟩ := BrQ.all_ mk ok ap pos ns (s := (List.replicate n none, 0)) (by rw [List.length_replicate]; exact hn) BrQ.new
  have pm : B.Perm C := (List.perm_ext_iff_of_nodup b.nd hC).mpr fun q => by
    rw [hb, hc]
    exact ⟨fun z => z.elim (fun y => nomatch y) id, .inr⟩
  refine b.eq.trans ?_
  unfold siz
  exact (pm.map _).sum_nat
end
end Ov
namespace Ov
open PySem PySem.Spec PyProof.Rows L2
theorem ways_at {n : Nat} {ps : List (List Nat)} {dn : Nat → List Nat} {f : Nat} (hf : f < n) : (waysF n ps dn)[f]?.getD [] = wayF ps dn f := by
  unfold waysF
  rw [List.getElem?_map, List.getElem?_range hf]
  rfl
theorem ways_out {n : Nat} {ps : List (List Nat)} {dn : Nat → List Nat} {f : Nat} (hf : ¬ f < n) : (waysF n ps dn)[f]?.getD [] = [] := by
  unfold waysF
  rw [List.getElem?_eq_none (by rw [List.length_map, List.length_range]; omega)]
  rfl
section
variable {pr : List (Int × W)} {ps : List (List Nat)} {st : List Int} {dn : Nat → List Nat} {cs : List Int} {far room : Nat}
/-- a tree whose parts lie all on one way -/
theorem whole_cost (ok : PrOk pr) (ht : TrOk pr.length ps st) (hd : Dn pr.length ps st dn) (hc : Cells pr ps dn cs) (hl : HlOk (waysF pr.length ps dn) (laysF pr cs ps) far) (hn : far ≤ room) {t : Nat} (ht1 : t < pr.length) (ht2 : ∀ q, q < ps.length → q ∈ wayF ps dn t) {ns C : List Nat} (hns : ∀ f ∈ ns, f < pr.length)
    (nd : C.Nodup) (hC : ∀ q, q ∈ C ↔ ∃ f ∈ ns, q ∈ wayF ps dn f) : ((costT (waysF pr.length ps dn) (laysF pr cs ps) room ns : Nat) : Int) = (C.map fun q => psz pr (ps[q]?.getD [])).sum := by
  have hp : PInv pr.length ps := ht.p
  have wl : ∀ f, f < pr.length → ∀ q ∈ wayF ps dn f, q < ps.length := fun f hf q hq => by
    have pl : prt ps f < ps.length := by
      obtain ⟨i, p, j, e1, e2⟩ := hp.stands hf
      rw [prt_eq hp e1 (List.mem_of_getElem? e2)]
      exact (List.getElem?_eq_some_iff.mp e1).1
    unfold wayF at hq
    rcases List.mem_append.mp hq with z | z
    · exact hd.lt _ pl q z
    · rw [List.mem_singleton.mp z]
      exact pl
  have pos : ∀ f : Nat, ∀ q ∈ ((waysF pr.length ps dn)[f]?.getD [] : List Nat), lyr (laysF pr cs ps) q ≠ [] := fun f q hq e => by
    by_cases hf : f < pr.length
    · rw [ways_at hf] at hq
      have hql := wl f hf q hq
      have z := lay_len ok hp hc (q := q)
      rw [e, List.getElem?_eq_getElem hql] at z
      have z2 : (0 : Int) = psz pr ps[q] := z
      have m := List.getElem_mem hql
      have z3 := (psz_nn ok fun x hx => hp.lt m hx).1
      have z4 := List.length_pos_iff.mpr (hp.ne _ m)
      omega
    · rw [ways_out hf] at hq
      cases hq
  have ap : ∀ q r, q ≠ r → Apart (lyr (laysF pr cs ps) q) (lyr (laysF pr cs ps) r) := fun q r ne => by
    have out : ∀ q, ¬ q < ps.length → lyr (laysF pr cs ps) q = [] := fun q h => by
      rw [lyr_lays, List.getElem?_eq_none (by omega)]
      rfl
    by_cases h1 : q < ps.length
    · by_cases h2 : r < ps.length
      · have hw : wayF ps dn t ∈ waysF pr.length ps dn := List.mem_map.mpr ⟨t, List.mem_range.mpr ht1, rfl⟩
        exact (pair_ne (R := fun q r => q ≠ r ∧ Apart (lyr (laysF pr cs ps) q) (lyr (laysF pr cs ps) r)) (fun a b z => ⟨z.1.symm, z.2.symm⟩) (hl.ap _ hw) (ht2 q h1) (ht2 r h2) ne).2
      · rw [out r h2]
        exact fun _ _ _ z => nomatch z
    · rw [out q h1]
      exact fun _ z => nomatch z
  rw [apart_cost (marks_lays hp) hl ap pos hn ns nd fun q => by
    rw [hC]
    constructor
    · rintro ⟨f, hf, hq⟩
      exact ⟨f, hf, by rw [ways_at (hns f hf)]; exact hq⟩
    · rintro ⟨f, hf, hq⟩
      exact ⟨f, hf, by rw [ways_at (hns f hf)] at hq; exact hq⟩]
  exact siz_eq ok hp hc C
end
/-! one part -/
def onePs (n : Nat) : List (List Nat) := [List.range n]
theorem one_ok {n : Nat} (hn : 0 < n) : TrOk n (onePs n) [-1] := by
  refine ⟨⟨fun p hp => ?_, fun p hp => ?_, ?_, ?_⟩, rfl, [0], List.Perm.refl _, fun t x hx => ?_⟩
  · rw [List.mem_singleton.mp hp]
    exact fun z => absurd (congrArg List.length z) (by rw [List.length_range]; show n ≠ 0; omega)
  · rw [List.mem_singleton.mp hp]
    exact List.pairwise_lt_range
  · exact List.pairwise_singleton _ _
  · show (List.flatten [List.range n]).Perm _
    rw [List.flatten_cons, List.flatten_nil, List.append_nil]
  · match t with
    | 0 =>
      cases hx
      exact .inl rfl
    | t + 1 => cases hx
theorem one_way {n : Nat} {dn : Nat → List Nat} (hd : Dn n (onePs n) [-1] dn) {f : Nat} (hf : f < n) : wayF (onePs n) dn f = [0] := by
  have e0 : dn 0 = [] := (hd.down 0 (Nat.zero_lt_one)).uniq (.base rfl)
  have e1 : prt (onePs n) f = 0 := prt_eq (n := n) (one_ok (by omega)).p (p := List.range n) rfl (List.mem_range.mpr hf)
  unfold wayF
  rw [e1, e0]
  rfl
theorem one_cost {pr : List (Int × W)} {dn : Nat → List Nat} {cs : List Int} {far room : Nat} (ok : PrOk pr) (hd : Dn pr.length (onePs pr.length) [-1] dn) (hc : Cells pr (onePs pr.length) dn cs) (hl : HlOk (waysF pr.length (onePs pr.length) dn) (laysF pr cs (onePs pr.length)) far) (hn : far ≤ room) {ns : List Nat} (hns : ∀ f ∈ ns, f < pr.length) (h0 : ns ≠ []) :
    ((costT (waysF pr.length (onePs pr.length) dn) (laysF pr cs (onePs pr.length)) room ns : Nat) : Int) = psz pr (List.range pr.length) := by
  have n1 := ok.l1
  rw [whole_cost ok (one_ok (by omega)) hd hc hl hn (t := 0) (by omega) (fun q hq => by
    rw [one_way hd (by omega)]
    have : q < 1 := hq
    exact List.mem_singleton.mpr (by omega)) hns (C := [0]) (by simp) fun q => by
      constructor
      · intro hq
        obtain ⟨f, hf⟩ := List.exists_mem_of_ne_nil _ h0
        exact ⟨f, hf, by rw [one_way hd (hns f hf)]; exact hq⟩
      · rintro ⟨f, hf, hq⟩
        rw [one_way hd (hns f hf)] at hq
        exact hq]
  show psz pr (List.range pr.length) + 0 = _
  omega
/-! a chain; all apart -/
def chPs (n : Nat) : List (List Nat) := (List.range n).map fun k => [k]
def chSt (n : Nat) : List Int := (List.range n).map fun (k : Nat) => (k : Int) - 1
theorem ch_len (n : Nat) : (chPs n).length = n := by unfold chPs; rw [List.length_map, List.length_range]
theorem ch_at {n k : Nat} (h : k < n) : (chPs n)[k]? = some [k] := by
  unfold chPs
  rw [List.getElem?_map, List.getElem?_range h]
  rfl
theorem ch_pinv (n : Nat) : PInv n (chPs n) := by
  refine ⟨fun p hp => ?_, fun p hp => ?_, ?_, ?_⟩
  · obtain ⟨k, _, rfl⟩ := List.mem_map.mp hp
    exact List.cons_ne_nil _ _
  · obtain ⟨k, _, rfl⟩ := List.mem_map.mp hp
    exact List.pairwise_singleton _ _
  · unfold chPs
    rw [List.map_map, show ((fun x : List Nat => x.headD 0) ∘ fun k => [k]) = id from rfl, List.map_id]
    exact List.pairwise_lt_range
  · unfold chPs
    rw [show ((List.range n).map fun k => [k]).flatten = List.range n by rw [← List.flatMap_def]; exact List.flatMap_singleton' _]
theorem ch_ok (n : Nat) : TrOk n (chPs n) (chSt n) := by
  refine ⟨ch_pinv n, by rw [ch_len]; unfold chSt; rw [List.length_map, List.length_range], List.range n, by rw [ch_len], fun t x hx => ?_⟩
  obtain ⟨hl, e⟩ := List.getElem?_eq_some_iff.mp hx
  rw [List.length_range] at hl
  rw [List.getElem_range] at e
  subst e
  have es : (chSt n)[t]? = some ((t : Int) - 1) := by
    unfold chSt
    rw [List.getElem?_map, List.getElem?_range hl]
    rfl
  cases t with
  | zero => exact .inl es
  | succ j => exact .inr ⟨j, j, Nat.lt_succ_self _, List.getElem?_range (by omega), by rw [es]; congr 1; omega⟩
theorem ap_ok (n : Nat) : TrOk n (chPs n) (List.replicate n (-1)) := by
  refine ⟨ch_pinv n, by rw [ch_len, List.length_replicate], List.range n, by rw [ch_len], fun t x hx => ?_⟩
  obtain ⟨hl, e⟩ := List.getElem?_eq_some_iff.mp hx
  rw [List.length_range] at hl
  rw [List.getElem_range] at e
  subst e
  exact .inl (by rw [List.getElem?_replicate, if_pos hl])
theorem ch_down {n : Nat} : ∀ {x : Nat}, x < n → Down (chSt n) x (List.range x)
  | 0, h => .base (by unfold chSt; rw [List.getElem?_map, List.getElem?_range h]; rfl)
  | x + 1, h => by
    rw [List.range_succ]
    exact .step (by unfold chSt; rw [List.getElem?_map, List.getElem?_range h]; show some (((x + 1 : Nat) : Int) - 1) = _; congr 1; omega) (ch_down (by omega))
theorem ch_way {n : Nat} {dn : Nat → List Nat} (hd : Dn n (chPs n) (chSt n) dn) {f : Nat} (hf : f < n) : wayF (chPs n) dn f = List.range (f + 1) := by
  have e0 : dn f = List.range f := (hd.down f (by rw [ch_len]; exact hf)).uniq (ch_down hf)
  have e1 : prt (chPs n) f = f := prt_eq (ch_pinv n) (ch_at hf) (List.mem_singleton.mpr rfl)
  unfold wayF
  rw [e1, e0, List.range_succ]
theorem ch_cost {pr : List (Int × W)} {dn : Nat → List Nat} {cs : List Int} {far room : Nat} (ok : PrOk pr) (hd : Dn pr.length (chPs pr.length) (chSt pr.length) dn) (hc : Cells pr (chPs pr.length) dn cs) (hl : HlOk (waysF pr.length (chPs pr.length) dn) (laysF pr cs (chPs pr.length)) far) (hn : far ≤ room) {ns : List Nat} (hns : ∀ f ∈ ns, f < pr.length)
    {M : Nat} (h0 : M ∈ ns) (hM : ∀ f ∈ ns, f ≤ M) : ((costT (waysF pr.length (chPs pr.length) dn) (laysF pr cs (chPs pr.length)) room ns : Nat) : Int) = psz pr (List.range (M + 1)) := by
  have n1 := ok.l1
  have hMl := hns M h0
  rw [whole_cost ok (ch_ok _) hd hc hl hn (t := pr.length - 1) (by omega) (fun q hq => by
    rw [ch_way hd (by omega)]
    rw [ch_len] at hq
    exact List.mem_range.mpr (by omega)) hns (C := List.range (M + 1)) List.nodup_range fun q => by
      constructor
      · intro hq
        exact ⟨M, h0, by rw [ch_way hd hMl]; exact hq⟩
      · rintro ⟨f, hf, hq⟩
        rw [ch_way hd (hns f hf)] at hq
        have := hM f hf
        have := List.mem_range.mp hq
        exact List.mem_range.mpr (by omega)]
  unfold psz
  congr 1
  refine List.map_congr_left fun q hq => ?_
  have := List.mem_range.mp hq
  rw [ch_at (by omega)]
  show fsz pr q + 0 = _
  omega
end Ov

/-! ### the same program by other numbers of functions (k07): the same is said -/
namespace Ov
open PySem PySem.Spec PyProof.Rows L2
section
variable (s : Nat → Nat)
def renG (o : Op) (g : Int) : Int := if o = .way ∨ o = .call then ((s g.toNat : Nat) : Int) else g
mutual
def W.ren : W → W
  | .mk o g as => .mk o (renG s o g) (W.rens as)
def W.rens : List W → List W
  | [] => []
  | w :: ws => W.ren w :: W.rens ws
end
def Wt.ren : Wt → Wt
  | .num z => .num z
  | .way f => .way (s f)
def RS.ren (r : RS) : RS := ⟨r.said, r.calls, r.row.map s, r.came.map fun e => (s e.1, e.2.ren s), r.told.map fun e => (s e.1, e.2.ren s)⟩
def Res.ren : Res → Res
  | .ok v r => .ok (v.ren s) (r.ren s)
  | .bad f r => .bad f (r.ren s)
end
section
variable {s : Nat → Nat}
theorem W.rens_map : ∀ ws : List W, W.rens s ws = ws.map (W.ren s)
  | [] => by rw [W.rens, List.map_nil]
  | w :: ws => by rw [W.rens, List.map_cons, W.rens_map ws]
theorem Res.ren_bind {r : Res} {k k' : Wt → RS → Res} (h : ∀ v st, k' (v.ren s) (st.ren s) = (k v st).ren s) : (r.ren s).bind k' = (r.bind k).ren s := by
  cases r with
  | ok v st => exact h v st
  | bad f st => rfl
theorem fin_ren {call call' : Nat → Wt → RS → Res} (hc : ∀ f a st, call' (s f) (a.ren s) (st.ren s) = (call f a st).ren s) (o : Op) (g : Int) (vs : List Wt) (st : RS) : fin call' o (renG s o g) (vs.map (Wt.ren s)) (st.ren s) = (fin call o g vs st).ren s := by
  have e : ∀ a : Wt, call' (renG s .call g).toNat (a.ren s) (st.ren s) = (call g.toNat a st).ren s := fun a => by
    unfold renG
    rw [if_pos (.inr rfl), Int.toNat_natCast]
    exact hc _ _ _
  cases o with
  | num => match vs with
    | [] => rfl
    | _ :: _ => rfl
  | arg => match vs with
    | [] => rfl
    | _ :: _ => rfl
  | way => match vs with
    | [] => rfl
    | _ :: _ => rfl
  | ife => match vs with
    | [] => rfl
    | _ :: _ => rfl
  | call => match vs with
    | [] => rfl
    | [v] => exact e v
    | _ :: _ :: _ => rfl
  | thn => match vs with
    | [] => rfl
    | [_] => rfl
    | [_, _] => rfl
    | _ :: _ :: _ :: _ => rfl
  | say => match vs with
    | [] => rfl
    | [.num _] => rfl
    | [.way _] => rfl
    | .num _ :: _ :: _ => rfl
    | .way _ :: _ :: _ => rfl
  | through => match vs with
    | [] => rfl
    | [.num _] => rfl
    | [.way _] => rfl
    | [.num _, _] => rfl
    | [.way f, u] => exact hc f u st
    | .num _ :: _ :: _ :: _ => rfl
    | .way _ :: _ :: _ :: _ => rfl
  | plus => match vs with
    | [] => rfl
    | [.num _] => rfl
    | [.way _] => rfl
    | [.num _, .num _] => rfl
    | [.num _, .way _] => rfl
    | [.way _, _] => rfl
    | .num _ :: .num _ :: _ :: _ => rfl
    | .num _ :: .way _ :: _ :: _ => rfl
    | .way _ :: _ :: _ :: _ => rfl
  | less => match vs with
    | [] => rfl
    | [.num _] => rfl
    | [.way _] => rfl
    | [.num _, .num _] => rfl
    | [.num _, .way _] => rfl
    | [.way _, _] => rfl
    | .num _ :: .num _ :: _ :: _ => rfl
    | .num _ :: .way _ :: _ :: _ => rfl
    | .way _ :: _ :: _ :: _ => rfl
  | times => match vs with
    | [] => rfl
    | [.num _] => rfl
    | [.way _] => rfl
    | [.num _, .num _] => rfl
    | [.num _, .way _] => rfl
    | [.way _, _] => rfl
    | .num _ :: .num _ :: _ :: _ => rfl
    | .num _ :: .way _ :: _ :: _ => rfl
    | .way _ :: _ :: _ :: _ => rfl
theorem evArms_ren {ev ev' : W → RS → Res} (he : ∀ w st, ev' (w.ren s) (st.ren s) = (ev w st).ren s) {k k' : List Wt → RS → Res} (hk : ∀ vs st, k' (vs.map (Wt.ren s)) (st.ren s) = (k vs st).ren s) : ∀ (ws : List W) (acc : List Wt) (st : RS), evArms ev' (ws.map (W.ren s)) (acc.map (Wt.ren s)) (st.ren s) k' = (evArms ev ws acc st k).ren s
  | [], acc, st => hk acc st
  | w :: ws, acc, st => by
    show (ev' (w.ren s) (st.ren s)).bind _ = _
    rw [he]
    refine Res.ren_bind fun v st' => ?_
    have z := evArms_ren he hk ws (acc ++ [v]) st'
    rw [List.map_append] at z
    exact z
theorem evB_ren {call call' : Nat → Wt → RS → Res} (hc : ∀ f a st, call' (s f) (a.ren s) (st.ren s) = (call f a st).ren s) (a : Wt) : ∀ (d : Nat) (w : W) (st : RS), evB call' (a.ren s) d (w.ren s) (st.ren s) = (evB call a d w st).ren s
  | 0, _, _ => rfl
  | d + 1, .mk o g as, st => by
    have ih := fun w st => evB_ren hc a d w st
    have arms := evArms_ren (k := fin call o g) (k' := fin call' o (renG s o g)) ih (fun vs st => fin_ren hc o g vs st) as [] st
    rw [W.ren, W.rens_map]
    cases o with
    | num => rfl
    | way =>
      show Res.ok (.way (renG s .way g).toNat) _ = Res.ok (.way (s g.toNat)) _
      unfold renG
      rw [if_pos (.inl rfl), Int.toNat_natCast]
    | arg => rfl
    | ife =>
      match as with
      | [] => rfl
      | [_] => rfl
      | [_, _] => rfl
      | [t, x, y] =>
        show (evB call' (a.ren s) d (t.ren s) (st.ren s)).bind _ = Res.ren s ((evB call a d t st).bind _)
        rw [ih]
        refine Res.ren_bind fun v st' => ?_
        cases v with
        | way f => rfl
        | num z =>
          show (if z ≠ 0 then _ else _) = Res.ren s (if z ≠ 0 then _ else _)
          by_cases c : z ≠ 0
          · rw [if_pos c, if_pos c]
            exact ih x st'
          · rw [if_neg c, if_neg c]
            exact ih y st'
      | _ :: _ :: _ :: _ :: _ => rfl
    | plus => exact arms
    | less => exact arms
    | times => exact arms
    | thn => exact arms
    | say => exact arms
    | call => exact arms
    | through => exact arms
variable {pr pr' : List (Int × W)}
theorem evC_ren (h : ∀ f, pr'[s f]? = (pr[f]?).map fun e => (e.1, e.2.ren s)) : ∀ (n c f : Nat) (a : Wt) (st : RS), evC pr' n (s c) (s f) (a.ren s) (st.ren s) = (evC pr n c f a st).ren s
  | 0, _, _, _, _ => rfl
  | n + 1, c, f, a, st => by
    show (if 200 ≤ st.calls then _ else _) = Res.ren s (if 200 ≤ st.calls then _ else _)
    by_cases cc : 200 ≤ st.calls
    · rw [if_pos cc, if_pos cc]
      rfl
    · rw [if_neg cc, if_neg cc, h f]
      cases pr[f]? with
      | none => rfl
      | some p =>
        show (evB (evC pr' n (s f)) (a.ren s) 7 (p.2.ren s) _).bind _ = Res.ren s ((evB (evC pr n f) a 7 p.2 _).bind _)
        have z := evB_ren (call := evC pr n f) (call' := evC pr' n (s f)) (fun g b st => evC_ren h n f g b st) a 7 p.2 { st with calls := st.calls + 1, row := st.row ++ [f], came := st.came ++ [(f, a)] }
        have e1 : RS.ren s { st with calls := st.calls + 1, row := st.row ++ [f], came := st.came ++ [(f, a)] } = { st.ren s with calls := st.calls + 1, row := (st.ren s).row ++ [s f], came := (st.ren s).came ++ [(s f, a.ren s)] } := by
          unfold RS.ren
          simp
        rw [e1] at z
        refine (congrArg (fun r => Res.bind r _) z).trans (Res.ren_bind fun v st' => ?_)
        show Res.ok _ _ = Res.ok _ _
        unfold RS.ren
        simp
theorem evR_ren (h : ∀ f, pr'[s f]? = (pr[f]?).map fun e => (e.1, e.2.ren s)) (s0 : s 0 = 0) (z : Int) : evR pr' z = (evR pr z).ren s := by
  unfold evR
  have h0 := h 0
  rw [s0] at h0
  rw [h0]
  cases pr[0]? with
  | none =>
    show Res.bad _ _ = Res.bad _ _
    unfold RS.ren
    simp [s0]
  | some p =>
    show (evB (evC pr' 12 0) (.num z) 7 (p.2.ren s) _).bind _ = Res.ren s ((evB (evC pr 12 0) (.num z) 7 p.2 _).bind _)
    have y := evB_ren (call := evC pr 12 0) (call' := evC pr' 12 0) (fun g b st => by have := evC_ren h 12 0 g b st; rw [s0] at this; exact this) (.num z) 7 p.2 ⟨[], 0, [0], [(0, .num z)], []⟩
    have e1 : RS.ren s ⟨[], 0, [0], [(0, .num z)], []⟩ = ⟨[], 0, [0], [(0, .num z)], []⟩ := by
      unfold RS.ren
      simp [s0, Wt.ren]
    rw [e1] at y
    refine (congrArg (fun r => Res.bind r _) y).trans (Res.ren_bind fun v st' => ?_)
    show Res.ok _ _ = Res.ok _ _
    unfold RS.ren
    simp [s0]
end
end Ov

/-! ### .. and as many cells are brought (k07) -/
namespace Ov
open PySem PySem.Spec PyProof.Rows L2
/-- two halls whose parts lie at the same cells, one by other numbers -/
structure HRel (s p : Nat → Nat) (n : Nat) (wys wys' : List (List Nat)) (L L' : List Lay) : Prop where
  way : ∀ f, f < n → (wys'[s f]?.getD [] : List Nat) = (wys[f]?.getD [] : List Nat).map p
  pos : ∀ q, (lyr L' (p q)).map (·.1) = (lyr L q).map (·.1)
  inj : ∀ q r, p q = p r → q = r
section
variable {s p : Nat → Nat} {n : Nat} {wys wys' : List (List Nat)} {L L' : List Lay} {far far' : Nat}
theorem apart_pos {l m : Lay} : Apart l m ↔ ∀ x ∈ l.map (·.1), ∀ y ∈ m.map (·.1), x ≠ y := by
  constructor
  · intro h x hx y hy
    obtain ⟨e, he, rfl⟩ := List.mem_map.mp hx
    obtain ⟨d, hd, rfl⟩ := List.mem_map.mp hy
    exact h e he d hd
  · intro h e he d hd
    exact h _ (List.mem_map.mpr ⟨e, he, rfl⟩) _ (List.mem_map.mpr ⟨d, hd, rfl⟩)
theorem HRel.apart (h : HRel s p n wys wys' L L') (q r : Nat) : Apart (lyr L' (p q)) (lyr L' (p r)) ↔ Apart (lyr L q) (lyr L r) := by
  rw [apart_pos, apart_pos, h.pos, h.pos]
theorem HRel.len (h : HRel s p n wys wys' L L') (q : Nat) : (lyr L' (p q)).length = (lyr L q).length := by
  have z := congrArg List.length (h.pos q)
  rw [List.length_map, List.length_map] at z
  exact z
theorem HRel.siz (h : HRel s p n wys wys' L L') (ms : List Nat) : siz L' (ms.map p) = siz L ms := by
  unfold Ov.siz
  rw [List.map_map]
  congr 1
  exact List.map_congr_left fun q _ => h.len q
theorem has_step (mk : Marks L) (ok : HlOk wys L far) {ly : List (Option Cnt)} (lf : far ≤ ly.length) {f q : Nat} : Has (brgs ly L (mis ly L (wys[f]?.getD []))) (lyr L q) = true ↔ q ∈ mis ly L (wys[f]?.getD []) ∨ (Has ly (lyr L q) = true ∧ ∀ r ∈ mis ly L (wys[f]?.getD []), Apart (lyr L q) (lyr L r)) := by
  constructor
  · exact has_of mk ok lf
  · rintro (h | ⟨h, a⟩)
    · exact look_has' ok lf (List.mem_filter.mp h).1
    · exact brgs_keep _ _ a h
theorem HRel.step (h : HRel s p n wys wys' L L') (mk : Marks L) (mk' : Marks L') (ok : HlOk wys L far) (ok' : HlOk wys' L' far') {a a' : List (Option Cnt) × Nat} (lf : far ≤ a.1.length) (lf' : far' ≤ a'.1.length) (hr : ∀ q, Has a'.1 (lyr L' (p q)) = Has a.1 (lyr L q)) (hc : a'.2 = a.2) {f : Nat} (hf : f < n) :
    (∀ q, Has (tstep wys' L' a' (s f)).1 (lyr L' (p q)) = Has (tstep wys L a f).1 (lyr L q)) ∧ (tstep wys' L' a' (s f)).2 = (tstep wys L a f).2 := by
  have em : mis a'.1 L' (wys'[s f]?.getD []) = (mis a.1 L (wys[f]?.getD [])).map p := by
    rw [h.way f hf]
    unfold mis
    rw [List.filter_map]
    congr 1
    refine List.filter_congr fun q _ => ?_
    show (!Has a'.1 (lyr L' (p q))) = _
    rw [hr]
  refine ⟨fun q => ?_, ?_⟩
  · have g1 := has_step mk ok lf (f := f) (q := q)
    have g2 := has_step mk' ok' lf' (f := s f) (q := p q)
    rw [em] at g2
    rw [Bool.eq_iff_iff]
    show Has (brgs a'.1 L' (mis a'.1 L' (wys'[s f]?.getD []))) _ = true ↔ Has (brgs a.1 L (mis a.1 L (wys[f]?.getD []))) _ = true
    rw [em, g1, g2, hr]
    constructor
    · rintro (z | ⟨z, y⟩)
      · obtain ⟨r, hr', e⟩ := List.mem_map.mp z
        rw [← h.inj _ _ e]
        exact .inl hr'
      · exact .inr ⟨z, fun r hr' => (h.apart q r).mp (y _ (List.mem_map.mpr ⟨r, hr', rfl⟩))⟩
    · rintro (z | ⟨z, y⟩)
      · exact .inl (List.mem_map.mpr ⟨q, z, rfl⟩)
      · refine .inr ⟨z, fun r hr' => ?_⟩
        obtain ⟨r0, hr0, rfl⟩ := List.mem_map.mp hr'
        exact (h.apart q r0).mpr (y r0 hr0)
  · show a'.2 + Ov.siz L' _ = a.2 + Ov.siz L _
    rw [em, h.siz, hc]
theorem HRel.sum (h : HRel s p n wys wys' L L') (mk : Marks L) (mk' : Marks L') (ok : HlOk wys L far) (ok' : HlOk wys' L' far') : ∀ (ns : List Nat) {a a' : List (Option Cnt) × Nat}, (∀ f ∈ ns, f < n) → far ≤ a.1.length → far' ≤ a'.1.length → (∀ q, Has a'.1 (lyr L' (p q)) = Has a.1 (lyr L q)) → a'.2 = a.2 →
    (tsum wys' L' a' (ns.map s)).2 = (tsum wys L a ns).2
  | [], _, _, _, _, _, _, hc => hc
  | f :: r, a, a', hns, lf, lf', hr, hc => by
    obtain ⟨z1, z2⟩ := h.step mk mk' ok ok' lf lf' hr hc (hns f List.mem_cons_self)
    exact HRel.sum h mk mk' ok ok' r (a := tstep wys L a f) (a' := tstep wys' L' a' (s f)) (fun g hg => hns g (List.mem_cons_of_mem _ hg)) (by rw [tstep_len]; exact lf) (by rw [tstep_len]; exact lf') z1 z2
theorem has_none {n : Nat} {l : Lay} : Has (List.replicate n none) l = l.isEmpty := by
  cases l with
  | nil => rfl
  | cons e l =>
    cases hh : Has (List.replicate n none) (e :: l) with
    | false => rfl
    | true =>
      have z := has_iff.mp hh e List.mem_cons_self
      rw [List.getElem?_replicate] at z
      split at z <;> cases z
theorem HRel.cost (h : HRel s p n wys wys' L L') (mk : Marks L) (mk' : Marks L') (ok : HlOk wys L far) (ok' : HlOk wys' L' far') {m : Nat} (hm : far ≤ m) (hm' : far' ≤ m) {ns : List Nat} (hns : ∀ f ∈ ns, f < n) : costT wys' L' m (ns.map s) = costT wys L m ns := by
  refine h.sum mk mk' ok ok' ns hns (by rw [List.length_replicate]; exact hm) (by rw [List.length_replicate]; exact hm') (fun q => ?_) rfl
  rw [has_none, has_none]
  have z := h.len q
  cases e : lyr L q with
  | nil =>
    rw [e] at z
    rw [List.length_eq_zero_iff.mp z]
  | cons x l =>
    rw [e] at z
    cases e' : lyr L' (p q) with
    | nil =>
      rw [e'] at z
      cases z
    | cons y m => rfl
end
end Ov

/-! ### .. a tree by other numbers (k07) -/
namespace Ov
open PySem PySem.Spec PyProof.Rows L2
structure TRel (s p : Nat → Nat) (pr pr' : List (Int × W)) (ps ps' : List (List Nat)) (st st' : List Int) : Prop where
  fn : ∀ f, pr'[s f]? = (pr[f]?).map fun e => (e.1, e.2.ren s)
  len : pr'.length = pr.length
  lt : ∀ f, f < pr.length → s f < pr.length
  out : ∀ q, ¬ q < ps.length → ¬ p q < ps'.length
  inj : ∀ q r, p q = p r → q = r
  part : ∀ q x, ps[q]? = some x → ∃ y, ps'[p q]? = some y ∧ y.Perm (x.map s)
  base : ∀ q, st[q]? = some (-1) → st'[p q]? = some (-1)
  over : ∀ q (r : Nat), st[q]? = some (r : Int) → st'[p q]? = some ((p r : Nat) : Int)
section
variable {s p : Nat → Nat} {pr pr' : List (Int × W)} {ps ps' : List (List Nat)} {st st' : List Int} {dn dn' : Nat → List Nat} {cs cs' : List Int}
theorem TRel.down (h : TRel s p pr pr' ps ps' st st') {x : Nat} {l : List Nat} (d : Down st x l) : Down st' (p x) (l.map p) := by
  induction d with
  | base e => exact .base (h.base _ e)
  | @step x y l e _ ih =>
    rw [List.map_append]
    exact .step (h.over _ _ e) ih
theorem TRel.plt (h : TRel s p pr pr' ps ps' st st') {q : Nat} (hq : q < ps.length) : p q < ps'.length := by
  obtain ⟨y, e, _⟩ := h.part q _ (List.getElem?_eq_getElem hq)
  exact (List.getElem?_eq_some_iff.mp e).1
theorem TRel.dnq (h : TRel s p pr pr' ps ps' st st') {n : Nat} (hd : Dn n ps st dn) (hd' : Dn n ps' st' dn') {q : Nat} (hq : q < ps.length) : dn' (p q) = (dn q).map p := (hd'.down _ (h.plt hq)).uniq (h.down (hd.down q hq))
theorem TRel.fsz (h : TRel s p pr pr' ps ps' st st') (f : Nat) : fsz pr' (s f) = fsz pr f := by
  unfold Ov.fsz
  rw [h.fn]
  cases pr[f]? <;> rfl
theorem sum_perm {l m : List Int} (h : l.Perm m) : l.sum = m.sum := by
  induction h with
  | nil => rfl
  | cons x _ ih => rw [List.sum_cons, List.sum_cons, ih]
  | swap x y l => rw [List.sum_cons, List.sum_cons, List.sum_cons, List.sum_cons]; omega
  | trans _ _ a b => exact a.trans b
theorem TRel.psz (h : TRel s p pr pr' ps ps' st st') {x y : List Nat} (e : y.Perm (x.map s)) : psz pr' y = psz pr x := by
  unfold Ov.psz
  rw [sum_perm (e.map _), List.map_map]
  congr 1
  exact List.map_congr_left fun f _ => h.fsz f
theorem TRel.pszq (h : TRel s p pr pr' ps ps' st st') (q : Nat) : Ov.psz pr' (ps'[p q]?.getD []) = Ov.psz pr (ps[q]?.getD []) := by
  by_cases hq : q < ps.length
  · have e := List.getElem?_eq_getElem hq
    obtain ⟨y, e', z⟩ := h.part q _ e
    rw [e, e']
    exact h.psz z
  · rw [List.getElem?_eq_none (l := ps) (by omega), List.getElem?_eq_none (l := ps') (by have := h.out q hq; omega)]
    rfl
theorem TRel.bgn (h : TRel s p pr pr' ps ps' st st') {n : Nat} (hd : Dn n ps st dn) (hd' : Dn n ps' st' dn') {q : Nat} (hq : q < ps.length) : bgn pr' ps' dn' (p q) = bgn pr ps dn q := by
  unfold Ov.bgn
  rw [h.dnq hd hd' hq, List.map_map]
  congr 1
  exact List.map_congr_left fun y _ => h.pszq y
theorem TRel.prt (h : TRel s p pr pr' ps ps' st st') {n : Nat} (hp : PInv n ps) (hp' : PInv n ps') {f : Nat} (hf : f < n) : prt ps' (s f) = p (prt ps f) := by
  obtain ⟨i, x, j, e1, e2⟩ := hp.stands hf
  have m := List.mem_of_getElem? e2
  obtain ⟨y, e', z⟩ := h.part i x e1
  rw [prt_eq hp e1 m]
  exact prt_eq hp' e' (z.mem_iff.mpr (List.mem_map.mpr ⟨f, m, rfl⟩))
theorem TRel.hall (h : TRel s p pr pr' ps ps' st st') (ok : PrOk pr) (ok' : PrOk pr') (ht : TrOk pr.length ps st) (ht' : TrOk pr'.length ps' st') (hd : Dn pr.length ps st dn) (hd' : Dn pr'.length ps' st' dn') (hc : Cells pr ps dn cs) (hc' : Cells pr' ps' dn' cs') :
    HRel s p pr.length (waysF pr.length ps dn) (waysF pr'.length ps' dn') (laysF pr cs ps) (laysF pr' cs' ps') := by
  have hd2 : Dn pr.length ps' st' dn' := ⟨hd'.down, hd'.len, hd'.lt⟩
  have hp' : PInv pr.length ps' := h.len ▸ ht'.p
  refine ⟨fun f hf => ?_, fun q => ?_, h.inj⟩
  · have pl : Ov.prt ps f < ps.length := by
      obtain ⟨i, x, j, e1, e2⟩ := ht.p.stands hf
      rw [prt_eq ht.p e1 (List.mem_of_getElem? e2)]
      exact (List.getElem?_eq_some_iff.mp e1).1
    rw [ways_at hf, ways_at (by rw [h.len]; exact h.lt f hf)]
    unfold wayF
    rw [h.prt ht.p hp' hf, h.dnq hd hd2 pl, List.map_append]
    rfl
  · rw [lay_pos ok ht.p hc, lay_pos ok' ht'.p hc', h.pszq]
    by_cases hq : q < ps.length
    · rw [h.bgn hd hd2 hq]
    · rw [List.getElem?_eq_none (l := ps) (by omega)]
      rfl
/-- as many cells are brought -/
theorem TRel.cost (h : TRel s p pr pr' ps ps' st st') (ok : PrOk pr) (ok' : PrOk pr') (ht : TrOk pr.length ps st) (ht' : TrOk pr'.length ps' st') (hd : Dn pr.length ps st dn) (hd' : Dn pr'.length ps' st' dn') (hc : Cells pr ps dn cs) (hc' : Cells pr' ps' dn' cs') {far far' room : Nat}
    (hl : HlOk (waysF pr.length ps dn) (laysF pr cs ps) far) (hl' : HlOk (waysF pr'.length ps' dn') (laysF pr' cs' ps') far') (hn : far ≤ room) (hn' : far' ≤ room) {ns : List Nat} (hns : ∀ f ∈ ns, f < pr.length) :
    costT (waysF pr'.length ps' dn') (laysF pr' cs' ps') room (ns.map s) = costT (waysF pr.length ps dn) (laysF pr cs ps) room ns :=
  (h.hall ok ok' ht ht' hd hd' hc hc').cost (marks_lays ht.p) (marks_lays ht'.p) hl hl' hn hn' hns
end
end Ov

/-! ### the law's own renaming (k07): promises -/
namespace Ov
open PySem PySem.Spec PyProof.Rows L2
/-- a function's other number -/
def nmF (ns : List Nat) (f : Nat) : Nat := ns[f]?.getD f
def spRen (d : Nat) : Sp := fun vs H Q _ => ∃ (v : V) (l : Addr) (n : Nat) (ns : List Nat) (u : W), vs = [v, .ref l] ∧ WAt H v u ∧ WOk n d u ∧ H l = some (.lst (nV ns)) ∧ ns.length = n ∧ ∀ H' v', Same H H' → WAt H' v' (u.ren (nmF ns)) → Q v' H'
theorem WsAt.app {H : Hp} : ∀ {us vs : List V} {ws xs : List W}, WsAt H us ws → WsAt H vs xs → WsAt H (us ++ vs) (ws ++ xs)
  | _, _, _, _, .nil, r => r
  | _, _, _, _, .cons a l, r => .cons a (WsAt.app l r)
theorem nm_at {ns : List Nat} {k : Nat} (h : k < ns.length) : (nV ns)[k]? = some (.int ((nmF ns k : Nat) : Int)) := by
  unfold nV nmF
  rw [List.getElem?_map, List.getElem?_eq_getElem h]
  rfl
theorem name_way {o : Op} : decide (V.str o.name = V.str "way") = decide (o = .way) := by
  cases o <;> first | rfl | (rw [decide_eq_false (by decide), decide_eq_false]; exact fun z => absurd (V.str.inj z) (by decide))
theorem name_call {o : Op} : decide (V.str o.name = V.str "call") = decide (o = .call) := by
  cases o <;> first | rfl | (rw [decide_eq_false (by decide), decide_eq_false]; exact fun z => absurd (V.str.inj z) (by decide))
theorem pre_le (o : Op) (g : Int) : (o.pre g).length ≤ 1 := by
  unfold Op.pre
  split
  · exact Nat.le_refl 1
  · exact Nat.zero_le 1
theorem pre_at {o : Op} {g : Int} {x : V} {i : Nat} (h : (o.pre g)[i]? = some x) : i = 0 ∧ x = .int g := by
  unfold Op.pre at h
  split at h
  · cases i with
    | zero => exact ⟨rfl, (Option.some.inj h).symm⟩
    | succ j => cases h
  · cases h
theorem ren_mk {s : Nat → Nat} {o : Op} {g : Int} {as : List W} : (W.mk o g as).ren s = .mk o (renG s o g) (as.map (W.ren s)) := by rw [W.ren, W.rens_map]
theorem renG_id {s : Nat → Nat} {o : Op} {g : Int} (h1 : o ≠ .way) (h2 : o ≠ .call) : renG s o g = g := if_neg fun z => z.elim h1 h2
theorem renG_way {s : Nat → Nat} {k : Nat} : renG s .way (k : Int) = ((s k : Nat) : Int) := by
  unfold renG
  rw [if_pos (.inl rfl), Int.toNat_natCast]
theorem renG_call {s : Nat → Nat} {k : Nat} : renG s .call (k : Int) = ((s k : Nat) : Int) := by
  unfold renG
  rw [if_pos (.inr rfl), Int.toNat_natCast]
end Ov

/-! ### sorted(xs), tuples of ints of any lengths but 0 (k07) -/
namespace Ov
open PySem PySem.Spec PyProof.Rows L2
section
variable {prog : Program} {w : World} {A : Around} {E : Value → Shared → Prop} {s : Shared}
theorem kat_lex_ints {fin : Bool} : ∀ (vs us : List Value) (ns ms : List Int) (i : Nat), IntsAre vs ns → IntsAre us ms → fin = decide (vs.length < us.length) → PySem.W.KatLex prog w A true fin (fun r s' => s' = s ∧ r = HT.lexLt ns ms) (vs.zip us) i s
  | _, _, _, _, i, .nil, .nil, hf => PySem.W.kat_nil ⟨rfl, hf⟩
  | _, _, _, _, i, .nil, .cons m t r, hf => PySem.W.kat_nil ⟨rfl, by
      rw [hf, HT.lexLt_nil_cons]
      exact decide_eq_true (by rw [List.length_cons]; exact Nat.succ_pos _)⟩
  | _, _, _, _, i, .cons m t r, .nil, hf => PySem.W.kat_nil ⟨rfl, by
      rw [hf, HT.lexLt_cons_nil]
      exact decide_eq_false (Nat.not_lt_zero _)⟩
  | _, _, _, _, i, .cons (vs := vs) (ns := ns) n t r, .cons (vs := us) (ns := ms) m u q, hf => by
    rw [List.zip_cons_cons]
    refine PySem.W.kat_cons (SeqAt.EqAt.int_int n t m u prog w _ _ ?_)
    refine PySem.W.kat_go (fun e1 => ?_) (fun e1 => ?_)
    · have ex : n = m := by simpa using e1
      rw [HT.lexLt_cons, if_pos ex]
      refine PySem.W.kat_yes (kat_lex_ints vs us ns ms (i + 1) r q ?_)
      rw [hf, List.length_cons, List.length_cons]
      exact decide_eq_decide.mpr (by omega)
    · have ex : ¬ n = m := by simpa using e1
      rw [HT.lexLt_cons, if_neg ex]
      exact PySem.W.kat_no (TS.oneLt_ints _ ⟨rfl, rfl⟩)
/-- a tuple of these ints -/
def IsTs (h : Heap) (v : Value) (ns : List Int) : Prop := ∃ a items, v = .ref a ∧ IsTup h a items ∧ IntsAre items.toList ns
theorem ts_cmp {vs : List Value} {k : Value → List Int} (hp : ∀ v ∈ vs, IsTs s.heap v (k v)) : SrtO.Cmp prog w A s (tuples' true) (fun p => p.1 ∈ vs) (SrtO.lt2 fun v u => HT.lexLt (k v) (k u)) := by
  intro p q hm hm'
  have h1 := hp _ hm
  have h2 := hp _ hm'
  show wpAny (model prog w) A (keyLt' (tuples' true) p.1 q.1) (fun r s' => s' = s ∧ r = HT.lexLt (k p.1) (k q.1)) (fun _ _ => False) s
  obtain ⟨a, xs, e, ⟨o, ho, hc, n, hd⟩, hi⟩ := h1
  obtain ⟨a', ys, e', ⟨o', ho', hc', n', hd'⟩, hi'⟩ := h2
  rw [e] at hi
  rw [e'] at hi'
  rw [e, e']
  refine PySem.W.kat_lt ho hd ho' hd' ?_
  exact kat_lex_ints _ _ _ _ 0 hi hi' (by rw [Array.length_toList, Array.length_toList])
theorem ts_firsts {h : Heap} {k : Value → List Int} : ∀ {vs : List Value}, (∀ v ∈ vs, k v ≠ [] ∧ IsTs h v (k v)) → ∃ fs : List Value, PySem.W.KatTups h vs fs ∧ fs.length = vs.length ∧ ∀ f ∈ fs, ∃ x t, f = Value.int x t
  | [], _ => ⟨[], PySem.W.KatTups.nil, rfl, fun _ hm => by simp at hm⟩
  | v :: vs, hp => by
    obtain ⟨fs, h1, h2, h3⟩ := ts_firsts (vs := vs) fun v' hm => hp v' (List.mem_cons_of_mem _ hm)
    obtain ⟨ne, a, xs, e, ⟨o, ho, hc, n, hd⟩, hi⟩ := hp v List.mem_cons_self
    rw [e] at hi ne
    cases hx : xs.toList with
    | nil =>
      rw [hx] at hi
      cases hk : k (Value.ref a) with
      | nil => exact absurd hk ne
      | cons _ _ =>
        rw [hk] at hi
        cases hi
    | cons y ys =>
      obtain ⟨x, t, ey⟩ := SrtO.ints_mem hi y (by rw [hx]; exact List.mem_cons_self)
      have h0 : xs[0]? = some (.int x t) := by
        rw [← Array.getElem?_toList, hx, ← ey]
        rfl
      subst e
      refine ⟨.int x t :: fs, PySem.W.KatTups.cons ho hc hd h0 h1, by rw [List.length_cons, List.length_cons, h2], fun f hm => ?_⟩
      rcases List.mem_cons.mp hm with rfl | hm
      · exact ⟨x, t, rfl⟩
      · exact h3 f hm
theorem IsTs.keeps {h h' : Heap} {v : Value} {ns : List Int} (x : IsTs h v ns) (kp : ∀ b o, h.get? b = some o → o.cls = .type "tuple" → h'.get? b = some o) : IsTs h' v ns := by
  obtain ⟨a, xs, e, ⟨o, ho, hc, r⟩, hi⟩ := x
  exact ⟨a, xs, e, ⟨o, kp a o ho hc, hc, r⟩, hi⟩
theorem ts_sortable {a : Addr} {vs : List Value} {k : Value → List Int} (h0 : 0 < vs.length) (hp : ∀ v ∈ vs, k v ≠ [] ∧ IsTs s.heap v (k v)) (ha : ∀ o, s.heap.get? a = some o → o.cls ≠ .type "tuple") : SrtO.SortableO prog w A s a vs fun v u => HT.lexLt (k v) (k u) := by
  intro h' keep
  have hp' : ∀ v ∈ vs, k v ≠ [] ∧ IsTs h' v (k v) := fun v hm => ⟨(hp v hm).1, (hp v hm).2.keeps fun b o e c => keep b o (fun z => by subst z; exact ha o e c) e⟩
  obtain ⟨fs, h1, h2, h3⟩ := ts_firsts hp'
  refine ⟨tuples' true, fun Q E hq => ?_, ts_cmp fun v hm => (hp' v hm).2⟩
  refine PySem.W.kat_kind (T := .type "int") h1 (by omega) (fun f hm => ?_) (by rfl) ?_
  · obtain ⟨x, t, rfl⟩ := h3 f hm
    exact PySem.W.Looks.now
  · have e : (Value.type "int" != Value.type "tuple") = true := by first | decide +kernel | rfl | decide
    rw [e]
    exact hq
end
/-- sorted(xs), xs a list of tuples of ints (k says which): a new list of them, sorted -/
def rSortedT (K : PySem.W.Frag) : List V → Hp → VK → Prop := fun vs H Q => ∃ (a : Addr) (xs : List V) (k : V → List Int), vs = [V.ref a] ∧ SqL K H a xs ∧ (∀ x ∈ xs, k x ≠ [] ∧ ∃ t, x = V.ref t ∧ H t = some (.tup ((k x).map V.int))) ∧
  ∀ ys p, ys.Pairwise (fun x y => HT.lexLt (k y) (k x) = false) → ys.Perm xs → H p = none → Q (.ref p) (upd H p (.lst ys))
theorem swo_lexV {α : Type} (k : α → List Int) : SrtO.Swo (fun v u : α => HT.lexLt (k v) (k u)) := by
  have asym : ∀ xs ys : List Int, HT.lexLt xs ys = true → HT.lexLt ys xs = false := by
    intro xs
    induction xs with
    | nil =>
      intro ys h
      cases ys with
      | nil => rfl
      | cons y ys => rfl
    | cons x xs ih =>
      intro ys h
      cases ys with
      | nil => cases h
      | cons y ys =>
        rw [HT.lexLt_cons] at h ⊢
        by_cases e : x = y
        · rw [if_pos e] at h
          rw [if_pos e.symm]
          exact ih _ h
        · rw [if_neg e] at h
          rw [if_neg (fun z => e z.symm)]
          have := of_decide_eq_true h
          exact decide_eq_false (by omega)
  have tr : ∀ xs ys zs : List Int, HT.lexLt ys xs = false → HT.lexLt zs ys = false → HT.lexLt zs xs = false := by
    intro xs
    induction xs with
    | nil =>
      intro ys zs h1 h2
      cases zs with
      | nil => rfl
      | cons z zs => rfl
    | cons x xs ih =>
      intro ys zs h1 h2
      cases ys with
      | nil => cases h1
      | cons y ys =>
        cases zs with
        | nil => cases h2
        | cons z zs =>
          rw [HT.lexLt_cons] at h1 h2 ⊢
          by_cases e1 : y = x
          · rw [if_pos e1] at h1
            by_cases e2 : z = y
            · rw [if_pos e2] at h2
              rw [if_pos (e2.trans e1)]
              exact ih _ _ h1 h2
            · rw [if_neg e2] at h2
              have := of_decide_eq_false h2
              rw [if_neg (by omega)]
              exact decide_eq_false (by omega)
          · rw [if_neg e1] at h1
            have a := of_decide_eq_false h1
            by_cases e2 : z = y
            · rw [if_pos e2] at h2
              rw [if_neg (by omega)]
              exact decide_eq_false (by omega)
            · rw [if_neg e2] at h2
              have b := of_decide_eq_false h2
              rw [if_neg (by omega)]
              exact decide_eq_false (by omega)
  exact ⟨fun x y h => asym _ _ h, fun x y z h1 h2 => tr _ _ _ h1 h2⟩
theorem cr_sortedT {X : Cx} : CallR X (.builtin "sorted") (rSortedT X.K) := by
  intro pins s σ H vs us Q I r h
  obtain ⟨a, xs, k, rfl, hs, hx, q⟩ := h
  obtain ⟨its, rv, hl, hz⟩ := I.list hs
  obtain ⟨u, rfl, ru⟩ := vals1 r
  obtain rfl : u = Value.ref a := ru
  obtain ⟨e1, e2⟩ := refs_back rv fun x m => by
    obtain ⟨_, t, e, _⟩ := hx x m
    exact ⟨t, e⟩
  have hts : ∀ v ∈ its, (fun u => k (backV u)) v ≠ [] ∧ IsTs s.heap v ((fun u => k (backV u)) v) := fun v hv => by
    obtain ⟨t, rfl⟩ := e2 v hv
    have hm : V.ref t ∈ xs := by rw [e1]; exact List.mem_map.mpr ⟨_, hv, rfl⟩
    obtain ⟨ne, t', e, ht⟩ := hx _ hm
    cases e
    obtain ⟨_, its2, r2, ht2⟩ := I.hok _ _ ht
    exact ⟨ne, t, _, rfl, ht2, by have z := r2.ints; exact z⟩
  refine SrtO.sorted_ord (swo_lexV fun u => k (backV u)) hl.isList (by rw [← rv.length]; exact hz) (fun h2 h₁ a' ha kk => ?_) fun out h1 h2 => ?_
  · refine ts_sortable (s := { s with heap := h₁ }) (by omega) (fun v hm => ⟨(hts v hm).1, (hts v hm).2.keeps fun b o e _ => (kk b o e).2⟩) fun o e => ?_
    have e' : some o = some (seqObj "list" its.toArray 0) := e.symm.trans ha
    cases e'
    intro c
    exact absurd (Value.type.inj c) (by decide)
  · have h3 : ∀ u ∈ out, ∃ a, u = Value.ref a := fun u hu => e2 u (h2.perm.mem_iff.mp hu)
    obtain ⟨n, hn⟩ := PyProof.Rows.sortedAll_at s.heap its out.toArray
    have hb : (out.map backV).Perm xs := by
      rw [e1]
      exact h2.perm.map _
    refine ⟨.ref _, upd H (s.heap.objs.size + 1) (.lst (out.map backV)), I.laid (t' := s.toks) (fun _ _ => PyProof.Rows.sortedAll_old) (Nat.le_succ _) ⟨?_, out, n, vals_back h3, hn⟩, rfl, q _ _ ?_ hb (I.hok.fresh (Nat.le_succ _))⟩
    · rw [hb.length_eq]
      exact hz
    · exact List.pairwise_map.mpr h1
end Ov

/-! ### the tree by other numbers, as the law sorts it (k07) -/
namespace Ov
open PySem PySem.Spec PyProof.Rows L2
section
variable {n : Nat} {ns : List Nat}
theorem nm_get {f : Nat} (h : f < ns.length) : nmF ns f = ns[f] := by
  unfold nmF
  rw [List.getElem?_eq_getElem h]
  rfl
theorem nm_out {f : Nat} (h : ¬ f < ns.length) : nmF ns f = f := by
  unfold nmF
  rw [List.getElem?_eq_none (by omega)]
  rfl
theorem nm_lt (hp : ns.Perm (List.range n)) {f : Nat} (h : f < n) : nmF ns f < n := by
  have hl : ns.length = n := by rw [hp.length_eq, List.length_range]
  rw [nm_get (by omega)]
  exact List.mem_range.mp (hp.mem_iff.mp (List.getElem_mem _))
theorem nm_inj (hp : ns.Perm (List.range n)) {f g : Nat} (e : nmF ns f = nmF ns g) : f = g := by
  have hl : ns.length = n := by rw [hp.length_eq, List.length_range]
  have nd : ns.Nodup := hp.nodup_iff.mpr List.nodup_range
  by_cases h1 : f < n
  · by_cases h2 : g < n
    · rw [nm_get (by omega), nm_get (by omega)] at e
      exact (List.getElem_inj nd).mp e
    · have a := nm_lt hp h1
      rw [nm_out (f := g) (by omega)] at e
      omega
  · by_cases h2 : g < n
    · have a := nm_lt hp h2
      rw [nm_out (f := f) (by omega)] at e
      omega
    · rw [nm_out (by omega), nm_out (by omega)] at e
      exact e
theorem nm_map : (List.range ns.length).map (nmF ns) = ns := by
  refine List.ext_getElem (by simp) fun i h1 h2 => ?_
  rw [List.getElem_map, List.getElem_range, nm_get h2]
end
theorem nodup_map {f : Nat → Nat} (hf : ∀ a b, f a = f b → a = b) : ∀ {l : List Nat}, l.Nodup → (l.map f).Nodup
  | [], _ => List.nodup_nil
  | a :: l, h => by
    obtain ⟨h1, h2⟩ := List.nodup_cons.mp h
    rw [List.map_cons]
    refine List.nodup_cons.mpr ⟨fun z => ?_, nodup_map hf h2⟩
    obtain ⟨b, hb, e⟩ := List.mem_map.mp z
    rw [hf _ _ e] at hb
    exact h1 hb
/-- parts by other numbers, each sorted -/
abbrev SrP (s : Nat → Nat) : List Nat → List Nat → Prop := fun q p => q.Perm (p.map s) ∧ q.Pairwise (· ≤ ·)
theorem srp_flat {s : Nat → Nat} {qs ps : List (List Nat)} (h : Paired (SrP s) qs ps) : qs.flatten.Perm (ps.flatten.map s) := by
  induction h with
  | nil => exact List.Perm.refl _
  | @cons q p qs ps r _ ih =>
    rw [List.flatten_cons, List.flatten_cons, List.map_append]
    exact r.1.append ih
def intsN (q : List Nat) : List Int := q.map fun (x : Nat) => (x : Int)
section
variable {n : Nat} {ns : List Nat} {ps qs os : List (List Nat)}
theorem ren_pinv (hp : ns.Perm (List.range n)) (h : PInv n ps) (hq : Paired (SrP (nmF ns)) qs ps) (ho : os.Perm qs) (hs : os.Pairwise fun x y => HT.lexLt (intsN y) (intsN x) = false) : PInv n os := by
  have hl : ns.length = n := by rw [hp.length_eq, List.length_range]
  have pf : os.flatten.Perm (List.range n) := by
    refine (ho.flatten.trans (srp_flat hq)).trans ((h.perm.map _).trans ?_)
    rw [← hl, nm_map, hl]
    exact hp
  have nd : os.flatten.Nodup := pf.nodup_iff.mpr List.nodup_range
  obtain ⟨nd1, nd2⟩ := List.pairwise_flatten.mp nd
  have ne : ∀ p ∈ os, p ≠ [] := fun p hpm e => by
    obtain ⟨i, hi⟩ := List.mem_iff_getElem?.mp (ho.mem_iff.mp hpm)
    obtain ⟨x, hx, r⟩ := Paired.get2 hq hi
    subst e
    have z := r.1.length_eq
    rw [List.length_map] at z
    exact h.ne x (List.mem_of_getElem? hx) (List.length_eq_zero_iff.mp z.symm)
  refine ⟨ne, fun p hpm => ?_, ?_, pf⟩
  · obtain ⟨i, hi⟩ := List.mem_iff_getElem?.mp (ho.mem_iff.mp hpm)
    obtain ⟨x, hx, r⟩ := Paired.get2 hq hi
    exact List.Pairwise.imp (fun ⟨a, b⟩ => by omega) (r.2.and (nd1 p hpm))
  · rw [List.pairwise_map]
    refine List.Pairwise.imp_of_mem (fun {x y} hx hy ⟨a, b⟩ => ?_) (hs.and nd2)
    cases x with
    | nil => exact absurd rfl (ne _ hx)
    | cons u x =>
      cases y with
      | nil => exact absurd rfl (ne _ hy)
      | cons v y =>
        have d := b u List.mem_cons_self v List.mem_cons_self
        show u < v
        have a : HT.lexLt ((v : Int) :: intsN y) ((u : Int) :: intsN x) = false := a
        rw [HT.lexLt_cons, if_neg (by omega)] at a
        have := of_decide_eq_false a
        omega
/-- two parts at different places have no function in common -/
theorem pinv_ne (h : PInv n os) {i j : Nat} {p : List Nat} (hi : os[i]? = some p) (hj : os[j]? = some p) : i = j := by
  cases p with
  | nil => exact absurd rfl (h.ne _ (List.mem_of_getElem? hi))
  | cons u p => rw [← prt_eq h hi List.mem_cons_self, ← prt_eq h hj List.mem_cons_self]
theorem srp_ne (hp : ns.Perm (List.range n)) (h : PInv n ps) (hq : Paired (SrP (nmF ns)) qs ps) {i j : Nat} {p : List Nat} (hi : qs[i]? = some p) (hj : qs[j]? = some p) : i = j := by
  obtain ⟨x, hx, r⟩ := Paired.get2 hq hi
  obtain ⟨y, hy, r'⟩ := Paired.get2 hq hj
  cases x with
  | nil => exact absurd rfl (h.ne _ (List.mem_of_getElem? hx))
  | cons u x =>
    have z : nmF ns u ∈ p := r.1.mem_iff.mpr (List.mem_map.mpr ⟨u, List.mem_cons_self, rfl⟩)
    obtain ⟨w, hw, e⟩ := List.mem_map.mp (r'.1.mem_iff.mp z)
    rw [nm_inj hp e] at hw
    rw [← prt_eq h hx List.mem_cons_self, ← prt_eq h hy hw]
/-- where each part went -/
theorem ren_place (ho : os.Perm qs) : ∃ p : Nat → Nat, (∀ k q, qs[k]? = some q → os[p k]? = some q) ∧ ∀ k, ¬ k < qs.length → p k = k := by
  have key : ∀ k, ∃ j, (∀ q, qs[k]? = some q → os[j]? = some q) ∧ (¬ k < qs.length → j = k) := fun k => by
    by_cases hk : k < qs.length
    · obtain ⟨j, hj⟩ := List.mem_iff_getElem?.mp (ho.mem_iff.mpr (List.getElem_mem hk))
      refine ⟨j, fun q e => ?_, fun z => absurd hk z⟩
      rw [List.getElem?_eq_getElem hk] at e
      rw [hj]
      exact e
    · refine ⟨k, ⟨fun q e => ?_, fun _ => rfl⟩⟩
      rw [List.getElem?_eq_none (by omega)] at e
      cases e
  exact ⟨fun k => (key k).choose, fun k => (key k).choose_spec.1, fun k => (key k).choose_spec.2⟩
section
variable {p : Nat → Nat} {st st' : List Int}
theorem place_inj (hp : ns.Perm (List.range n)) (h : PInv n ps) (hq : Paired (SrP (nmF ns)) qs ps) (ho : os.Perm qs) (h1 : ∀ k q, qs[k]? = some q → os[p k]? = some q) (h2 : ∀ k, ¬ k < qs.length → p k = k) : ∀ a b, p a = p b → a = b := by
  have lt : ∀ k, k < qs.length → p k < qs.length := fun k hk => by
    have z := h1 k _ (List.getElem?_eq_getElem hk)
    rw [← ho.length_eq]
    exact (List.getElem?_eq_some_iff.mp z).1
  intro a b e
  by_cases ha : a < qs.length
  · by_cases hb : b < qs.length
    · have z1 := h1 a _ (List.getElem?_eq_getElem ha)
      have z2 := h1 b _ (List.getElem?_eq_getElem hb)
      rw [e, z2] at z1
      exact srp_ne hp h hq (List.getElem?_eq_getElem ha) (by rw [List.getElem?_eq_getElem hb]; exact z1)
    · have := lt a ha
      rw [h2 b hb] at e
      omega
  · by_cases hb : b < qs.length
    · have := lt b hb
      rw [h2 a ha] at e
      omega
    · rw [h2 a ha, h2 b hb] at e
      exact e
/-- such a tree is a tree -/
theorem ren_tree (hp : ns.Perm (List.range n)) (h : TrOk n ps st) (hq : Paired (SrP (nmF ns)) qs ps) (ho : os.Perm qs) (hs : os.Pairwise fun x y => HT.lexLt (intsN y) (intsN x) = false) (h1 : ∀ k q, qs[k]? = some q → os[p k]? = some q) (h2 : ∀ k, ¬ k < qs.length → p k = k)
    (hl : st'.length = ps.length) (b1 : ∀ q, st[q]? = some (-1) → st'[p q]? = some (-1)) (b2 : ∀ q (r : Nat), st[q]? = some (r : Int) → st'[p q]? = some ((p r : Nat) : Int)) : TrOk n os st' := by
  have lq : qs.length = ps.length := Paired.length hq
  have lo : os.length = ps.length := by rw [ho.length_eq, lq]
  have inj := place_inj hp h.p hq ho h1 h2
  obtain ⟨od, hod, hsi⟩ := h.ord
  refine ⟨ren_pinv hp h.p hq ho hs, by rw [hl, lo], od.map p, ?_, fun t x hx => ?_⟩
  · have nd : (od.map p).Nodup := nodup_map inj (hod.nodup_iff.mpr List.nodup_range)
    refine (List.perm_ext_iff_of_nodup nd List.nodup_range).mpr fun j => ?_
    rw [List.mem_range]
    constructor
    · intro hj
      obtain ⟨k, hk, rfl⟩ := List.mem_map.mp hj
      have hk := List.mem_range.mp (hod.mem_iff.mp hk)
      have z := h1 k _ (List.getElem?_eq_getElem (by omega))
      exact (List.getElem?_eq_some_iff.mp z).1
    · intro hj
      obtain ⟨k, hk⟩ := List.mem_iff_getElem?.mp (ho.mem_iff.mp (List.getElem_mem hj))
      have z := h1 k _ hk
      have e : j = p k := pinv_ne (ren_pinv hp h.p hq ho hs) (List.getElem?_eq_getElem hj) z
      have kl := (List.getElem?_eq_some_iff.mp hk).1
      exact List.mem_map.mpr ⟨k, hod.mem_iff.mpr (List.mem_range.mpr (by omega)), e.symm⟩
  · rw [List.getElem?_map] at hx
    obtain ⟨y, hy, rfl⟩ := Option.map_eq_some_iff.mp hx
    rcases hsi t y hy with e | ⟨j, u, hj, hu, e⟩
    · exact .inl (b1 y e)
    · exact .inr ⟨j, p u, hj, by rw [List.getElem?_map, hu]; rfl, b2 y u e⟩
end
end
end Ov
namespace Ov
open PySem PySem.Spec PyProof.Rows L2
def spOther (K : PySem.W.Frag) : Sp := fun vs H Q _ => ∃ (h c : Addr) (v t : V) (pr : List (Int × W)) (ps : List (List Nat)) (st : List Int), vs = [.ref h, v, t] ∧ Dr H h c ∧ preT H v t pr ps st ∧
  ∀ H' r ln v' t' ns pr' ps' st' p, But h c H H' → Dr H' h c → H' r = some (.tup [.ref ln, v', t']) → H' ln = some (.lst (nV ns)) → ns.length = pr.length → nmF ns 0 = 0 → preT H' v' t' pr' ps' st' → TRel (nmF ns) p pr pr' ps ps' st st' → Q (.ref r) H'
theorem rgV_one (n : Nat) : rgV 1 (n : Int) = nV ((List.range (n - 1)).map (1 + ·)) := by
  unfold rgV nV
  rw [show ((n : Int) - 1).toNat = n - 1 by omega, List.map_map]
  refine List.map_congr_left fun i _ => ?_
  exact congrArg V.int (show 1 + (i : Int) = ((1 + i : Nat) : Int) by omega)
theorem names_perm {n : Nat} (hn : 1 ≤ n) {od : List Nat} (h : od.Perm ((List.range (n - 1)).map (1 + ·))) : (0 :: od).Perm (List.range n) := by
  obtain ⟨k, rfl⟩ : ∃ k, n = k + 1 := ⟨n - 1, by omega⟩
  rw [List.range_succ_eq_map]
  refine List.Perm.cons 0 (h.trans (List.Perm.of_eq ?_))
  rw [Nat.add_sub_cancel]
  exact List.map_congr_left fun i _ => Nat.add_comm 1 i
mutual
theorem W.ren_size (s : Nat → Nat) : ∀ w : W, (W.ren s w).size = w.size
  | .mk o g as => by rw [W.ren, W.size, W.size, W.rens_size s as]
theorem W.rens_size (s : Nat → Nat) : ∀ ws : List W, W.sizes (W.rens s ws) = W.sizes ws
  | [] => by rw [W.rens]
  | w :: ws => by rw [W.rens, W.sizes, W.sizes, W.ren_size s w, W.rens_size s ws]
end
theorem WOk.ren {n : Nat} {s : Nat → Nat} (hs : ∀ f, f < n → s f < n) {d : Nat} {w : W} (h : WOk n d w) : WOk n d (w.ren s) := by
  induction h with
  | @mk d o g as h1 h2 _ ih =>
    rw [ren_mk]
    refine .mk (by rw [List.length_map]; exact h1) ?_ fun a ha => ?_
    · unfold renG
      split
      · rename_i c
        rcases c with rfl | rfl
        · have z := hs g.toNat (by have := h2.1; have := h2.2; omega)
          exact ⟨by omega, by omega⟩
        · have z := hs g.toNat (by have := h2.1; have := h2.2; omega)
          exact ⟨by omega, by omega⟩
      · exact h2
    · obtain ⟨b, hb, rfl⟩ := List.mem_map.mp ha
      exact ih b hb
/-- a row of which each is known is paired with what they are -/
theorem paired_choose {α β : Type} {R : α → β → Prop} {P : Nat → β → Prop} : ∀ {us : List α} {b : Nat}, (∀ j u, us[j]? = some u → ∃ e, R u e ∧ P (b + j) e) → ∃ l : List β, Paired R us l ∧ ∀ j e, l[j]? = some e → P (b + j) e
  | [], _, _ => ⟨[], .nil, fun j e h => by cases h⟩
  | u :: us, b, h => by
    obtain ⟨e, h1, h2⟩ := h 0 u rfl
    obtain ⟨l, h3, h4⟩ := paired_choose (us := us) (b := b + 1) fun j v hv => by
      obtain ⟨x, y, z⟩ := h (j + 1) v hv
      exact ⟨x, y, by rw [show b + 1 + j = b + (j + 1) by omega]; exact z⟩
    refine ⟨e :: l, .cons h1 h3, fun j x hx => ?_⟩
    cases j with
    | zero =>
      cases hx
      exact h2
    | succ j =>
      have z := h4 j x hx
      rw [show b + 1 + j = b + (j + 1) by omega] at z
      exact z
theorem ints_back {ms : List Int} {l : List Nat} (h : ms.Perm (intsN l)) (hp : ms.Pairwise (· ≤ ·)) : ∃ q, ms = intsN q ∧ q.Perm l ∧ q.Pairwise (· ≤ ·) := by
  have e : ms = intsN (ms.map Int.toNat) := by
    unfold intsN
    rw [List.map_map]
    have z : ∀ x ∈ ms, ((fun (x : Nat) => (x : Int)) ∘ Int.toNat) x = x := fun x hx => by
      obtain ⟨k, _, rfl⟩ := List.mem_map.mp (h.mem_iff.mp hx)
      exact congrArg Nat.cast (Int.toNat_natCast k)
    exact ((List.map_congr_left z).trans (List.map_id' ms)).symm
  refine ⟨ms.map Int.toNat, e, ?_, ?_⟩
  · have z := h.map Int.toNat
    unfold intsN at z
    rw [List.map_map] at z
    have y : l.map (Int.toNat ∘ fun (x : Nat) => (x : Int)) = l := (List.map_congr_left fun x _ => Int.toNat_natCast x).trans (List.map_id' l)
    rw [y] at z
    exact z
  · rw [e] at hp
    exact (List.pairwise_map.mp hp).imp fun h => Int.ofNat_le.mp h
theorem nV_of (q : List Nat) : nV q = (intsN q).map V.int := nV_ints q
def vInt : V → Int
  | .int z => z
  | _ => 0
/-- what ints a tuple holds -/
def keyT (H : Hp) (v : V) : List Int := match v with
  | .ref t => match H t with
    | some (.tup xs) => xs.map vInt
    | _ => []
  | _ => []
theorem keyT_part {H : Hp} {v : V} {p : List Nat} (h : PartAt H v p) : keyT H v = intsN p := by
  obtain ⟨b, rfl, e⟩ := h
  unfold keyT
  simp only [e]
  unfold nV intsN
  rw [List.map_map]
  rfl
theorem paired_pw {α β : Type} {R : α → β → Prop} {S : α → α → Prop} {S' : β → β → Prop} (hi : ∀ x x' y y', R x y → R x' y' → S x x' → S' y y') {xs : List α} {ys : List β} (h : Paired R xs ys) (p : xs.Pairwise S) : ys.Pairwise S' := by
  induction h with
  | nil => exact .nil
  | @cons x y xs ys r rs ih =>
    obtain ⟨p1, p2⟩ := List.pairwise_cons.mp p
    refine List.pairwise_cons.mpr ⟨fun y' hy' => ?_, ih p2⟩
    obtain ⟨i, hi'⟩ := List.mem_iff_getElem?.mp hy'
    have hl := (List.getElem?_eq_some_iff.mp hi').1
    have hxl : i < xs.length := by rw [Paired.length rs]; exact hl
    obtain ⟨y2, hy2, r2⟩ := Paired.get2 rs (List.getElem?_eq_getElem hxl)
    rw [hi'] at hy2
    cases hy2
    exact hi _ _ _ _ r r2 (p1 _ (List.getElem_mem hxl))
theorem paired_perm' {α β : Type} {R : α → β → Prop} {ys xs : List α} (h : ys.Perm xs) : ∀ {qs : List β}, Paired R xs qs → ∃ os : List β, os.Perm qs ∧ Paired R ys os := by
  induction h with
  | nil =>
    intro qs r
    exact ⟨[], by cases r; exact List.Perm.refl _, .nil⟩
  | cons x _ ih =>
    intro qs r
    cases r with
    | cons a r =>
      obtain ⟨os, h1, h2⟩ := ih r
      exact ⟨_ :: os, h1.cons _, .cons a h2⟩
  | swap x y l =>
    intro qs r
    cases r with
    | cons a r =>
      cases r with
      | cons b r => exact ⟨_ :: _ :: _, List.Perm.swap _ _ _, .cons b (.cons a r)⟩
  | trans _ _ ih1 ih2 =>
    intro qs r
    obtain ⟨os, h1, h2⟩ := ih2 r
    obtain ⟨os', h3, h4⟩ := ih1 h2
    exact ⟨os', h3.trans h1, h4⟩
end Ov
namespace Ov
open PySem PySem.Spec PyProof.Rows L2
/-- a part, as data -/
def partD (p : List Nat) : PyData := .tuple ((intsN p).map PyData.int)
theorem part_dp {K : PySem.W.Frag} {H : Hp} {v : V} {p : List Nat} (h : PartAt H v p) : Dp K H v (partD p) := by
  obtain ⟨b, rfl, e⟩ := h
  rw [nV_of] at e
  exact .tup (SqT.of e) (dpInts _)
theorem parts_dp {K : PySem.W.Frag} {H : Hp} {vs : List V} {ps : List (List Nat)} (h : Paired (PartAt H) vs ps) : DpAll K H vs (ps.map partD) := by
  induction h with
  | nil => exact .nil
  | cons r _ ih => exact .cons (part_dp r) ih
theorem intsN_inj : ∀ {l m : List Nat}, intsN l = intsN m → l = m
  | [], [], _ => rfl
  | [], _ :: _, h => by cases h
  | _ :: _, [], h => by cases h
  | a :: l, b :: m, h => by
    obtain ⟨h1, h2⟩ := List.cons.inj (show (a : Int) :: intsN l = (b : Int) :: intsN m from h)
    rw [intsN_inj h2, Int.ofNat_inj.mp h1]
theorem eqv_intsAll : ∀ l m : List Int, PyData.eqvAll (l.map PyData.int) (m.map PyData.int) = decide (l = m)
  | [], [] => by simp [PyData.eqvAll]
  | [], _ :: _ => by simp [PyData.eqvAll]
  | _ :: _, [] => by simp [PyData.eqvAll]
  | a :: l, b :: m => by
    have h := eqv_intsAll l m
    rw [List.map_cons, List.map_cons]
    simp only [PyData.eqvAll, PyData.eqv, h]
    by_cases c : a = b
    · subst c
      simp
    · simp [c]
theorem eqv_part (p q : List Nat) : PyData.eqv (partD p) (partD q) = decide (p = q) := by
  show PyData.eqvAll _ _ = _
  rw [eqv_intsAll]
  exact decide_eq_decide.mpr ⟨intsN_inj, fun e => by rw [e]⟩
theorem part_sh (p : List Nat) : SeqAt.shaped (partD p) = true := by
  have z := intsLay (intsN p)
  have y := intsDepth (intsN p)
  unfold SeqAt.shaped
  simp [partD, PyData.canLay0, PyData.depth, z, y]
theorem parts_lay : ∀ ps : List (List Nat), PyData.canLayAll0 (ps.map partD) = true ∧ PyData.depthAll (ps.map partD) ≤ 1
  | [] => by simp [PyData.canLayAll0, PyData.depthAll]
  | p :: ps => by
    obtain ⟨h1, h2⟩ := parts_lay ps
    have z := intsLay (intsN p)
    have y := intsDepth (intsN p)
    rw [List.map_cons]
    simp [PyData.canLayAll0, PyData.depthAll, partD, PyData.canLay0, PyData.depth, z, y, h1]
    exact Nat.max_le.mpr ⟨Nat.le_refl _, h2⟩
theorem parts_sh (ps : List (List Nat)) : SeqAt.shaped (.list (ps.map partD)) = true := by
  obtain ⟨h1, h2⟩ := parts_lay ps
  unfold SeqAt.shaped
  have e : PyData.depth (.list (ps.map partD)) ≤ 2 := Nat.succ_le_succ h2
  have c : PyData.canLay0 (.list (ps.map partD)) = true := h1
  rw [c]
  simp
  omega
end Ov
namespace Ov
open PySem PySem.Spec PyProof.Rows L2
theorem index_by {K : PySem.W.Frag} {H : Hp} {l : Addr} {ys : List V} {os : List (List Nat)} {v : V} {p : List Nat} {n j : Nat} {Q : VK} (e : H l = some (.lst ys)) (hy : Paired (PartAt H) ys os) (hv : PartAt H v p) (hj : os[j]? = some p) (hp : PInv n os) (q : Q (.int (j : Nat)) H) : rIndexD K (.ref l) [v] H Q := by
  refine ⟨l, v, partD p, os.map partD, j, partD p, rfl, rfl, .lst (SqL.of e) (parts_dp hy), part_dp hv, parts_sh os, part_sh p, by rw [List.getElem?_map, hj]; rfl, by rw [eqv_part]; exact decide_eq_true rfl, fun m z hm hz => ?_, q⟩
  rw [List.getElem?_map] at hz
  obtain ⟨o, ho, rfl⟩ := Option.map_eq_some_iff.mp hz
  rw [eqv_part]
  refine decide_eq_false fun c => ?_
  subst c
  have := pinv_ne hp ho hj
  omega
end Ov
namespace Ov
open PySem PySem.Spec PyProof.Rows L2
theorem ren_prog {H : Hp} {pr : List (Int × W)} {ns : List Nat} {us : List V} (hp : ns.Perm (List.range pr.length)) (ok : PrOk pr) (hl : us.length = pr.length) (hus : ∀ k f, pr[k]? = some f → ∃ u, us[nmF ns k]? = some u ∧ FAt H u (f.1, f.2.ren (nmF ns))) :
    ∃ pr' : List (Int × W), Paired (FAt H) us pr' ∧ pr'.length = pr.length ∧ PrOk pr' ∧ ∀ f, pr'[nmF ns f]? = (pr[f]?).map fun e => (e.1, e.2.ren (nmF ns)) := by
  have hn : ns.length = pr.length := by rw [hp.length_eq, List.length_range]
  have src : ∀ j, j < pr.length → ∃ k f, nmF ns k = j ∧ pr[k]? = some f := fun j hj => by
    obtain ⟨k, hk⟩ := List.mem_iff_getElem?.mp (hp.mem_iff.mpr (List.mem_range.mpr hj))
    obtain ⟨hkl, e⟩ := List.getElem?_eq_some_iff.mp hk
    exact ⟨k, _, by rw [nm_get hkl]; exact e, List.getElem?_eq_getElem (by omega)⟩
  obtain ⟨pr', h1, h2⟩ := paired_choose (R := FAt H) (P := fun j e => ∃ k f, nmF ns k = j ∧ pr[k]? = some f ∧ e = (f.1, f.2.ren (nmF ns))) (us := us) (b := 0) fun j u hu => by
    obtain ⟨k, f, hk, hf⟩ := src j (by have := (List.getElem?_eq_some_iff.mp hu).1; omega)
    obtain ⟨u', hu', hfa⟩ := hus k f hf
    rw [hk, hu] at hu'
    cases hu'
    exact ⟨_, hfa, k, f, by rw [hk, Nat.zero_add], hf, rfl⟩
  have hl' : pr'.length = pr.length := by rw [← Paired.length h1, hl]
  refine ⟨pr', h1, hl', ⟨by rw [hl']; exact ok.l1, by rw [hl']; exact ok.l8, fun e he => ?_⟩, fun f => ?_⟩
  · obtain ⟨j, hj⟩ := List.mem_iff_getElem?.mp he
    obtain ⟨k, f, _, hf, rfl⟩ := h2 j e hj
    obtain ⟨a, b, c, d⟩ := ok.f f (List.mem_of_getElem? hf)
    refine ⟨a, b, ?_, ?_⟩
    · rw [hl']
      exact c.ren fun g hg => nm_lt hp hg
    · show (W.ren _ f.2).size ≤ 40
      rw [W.ren_size]
      exact d
  · by_cases hf : f < pr.length
    · have e1 := List.getElem?_eq_getElem hf
      have e2 : pr'[nmF ns f]? = some (pr'[nmF ns f]'(by rw [hl']; exact nm_lt hp hf)) := List.getElem?_eq_getElem _
      obtain ⟨k, g, hk, hg, e⟩ := h2 _ _ e2
      rw [Nat.zero_add] at hk
      rw [nm_inj hp hk, e1] at hg
      cases hg
      rw [e2, e1, e]
      rfl
    · rw [nm_out (by omega), List.getElem?_eq_none (l := pr) (by omega), List.getElem?_eq_none (l := pr') (by omega)]
      rfl
end Ov

/-! ### .. what the law compares (k12) -/
namespace Ov
open PySem PySem.Spec PyProof.Rows L2
def vDt : V → PyData
  | .int z => .int z
  | .str s => .str s
  | _ => .none
/-- how a run ends, as data -/
def endDt (e : Str × V) : PyData := .tuple [.str e.1, vDt e.2]
def flatE : V → Bool
  | .int _ => true
  | .str _ => true
  | _ => false
theorem endD_flatE (r : Res) : flatE (endD r).2 = true := by
  cases r with
  | ok v s => cases v <;> rfl
  | bad f s => rfl
theorem vDt_dp {K : PySem.W.Frag} {H : Hp} {v : V} (h : flatE v = true) : Dp K H v (vDt v) := by
  cases v <;> first | exact .int _ | exact .str _ | cases h
theorem vDt_eqv {v : V} (h : flatE v = true) : PyData.eqv (vDt v) (vDt v) = true := by
  cases v <;> first | (simp [vDt, PyData.eqv]; done) | cases h
/-- (told, said) -/
def runDt (e : Str × V) (sd : List Int) : PyData := .tuple [endDt e, .list (sd.map PyData.int)]
/-- (told, said, brought) -/
def inDt (e : Str × V) (sd : List Int) (n : Int) : PyData := .tuple [endDt e, .list (sd.map PyData.int), .int n]
theorem runDt_eqv {e : Str × V} (h : flatE e.2 = true) (sd : List Int) : PyData.eqv (runDt e sd) (runDt e sd) = true := by
  simp [runDt, endDt, PyData.eqv, PyData.eqvAll, vDt_eqv h, eqvIntsAll]
theorem inDt_eqv {e : Str × V} (h : flatE e.2 = true) (sd : List Int) (n : Int) : PyData.eqv (inDt e sd n) (inDt e sd n) = true := by
  simp [inDt, endDt, PyData.eqv, PyData.eqvAll, vDt_eqv h, eqvIntsAll]
/-- texts that may be laid -/
def LayE (e : Str × V) : Prop := PyData.canLay0 (.str e.1) = true ∧ PyData.canLay0 (vDt e.2) = true
theorem endD_lay (r : Res) : LayE (endD r) := by
  have n : PyData.canLay0 (.str "number") = true := by decide +kernel
  have w : PyData.canLay0 (.str "way") = true := by decide +kernel
  have f : PyData.canLay0 (.str "fault") = true := by decide +kernel
  cases r with
  | ok v s =>
    cases v with
    | num z => exact ⟨n, rfl⟩
    | way g => exact ⟨w, rfl⟩
  | bad x s =>
    cases x with
    | kind => exact ⟨f, show PyData.canLay0 (.str "kind") = true by decide +kernel⟩
    | deep => exact ⟨f, show PyData.canLay0 (.str "deep") = true by decide +kernel⟩
    | long => exact ⟨f, show PyData.canLay0 (.str "long") = true by decide +kernel⟩
theorem vDt_dep (v : V) : PyData.depth (vDt v) = 0 := by cases v <;> rfl
theorem runDt_sh {e : Str × V} (h : LayE e) (sd : List Int) : SeqAt.shaped (runDt e sd) = true := by
  have z := intsLay sd
  have z2 := intsDepth sd
  obtain ⟨z0, z3⟩ := h
  have z4 := vDt_dep e.2
  have z0 : PyData.strOk e.1 = true := z0
  unfold SeqAt.shaped
  simp [runDt, endDt, PyData.canLay0, PyData.canLayAll0, PyData.depth, PyData.depthAll, z, z2, z3, z4, z0]
theorem inDt_sh {e : Str × V} (h : LayE e) (sd : List Int) (n : Int) : SeqAt.shaped (inDt e sd n) = true := by
  have z := intsLay sd
  have z2 := intsDepth sd
  obtain ⟨z0, z3⟩ := h
  have z4 := vDt_dep e.2
  have z0 : PyData.strOk e.1 = true := z0
  unfold SeqAt.shaped
  simp [inDt, endDt, PyData.canLay0, PyData.canLayAll0, PyData.depth, PyData.depthAll, z, z2, z3, z4, z0]
/-- what was told, what was said -/
structure ToldAt (H : Hp) (tt sa : Addr) (e : Str × V) (sd : List Int) : Prop where
  t : H tt = some (.tup [.str e.1, e.2])
  s : H sa = some (.lst (sd.map V.int))
theorem ToldAt.same {H H' : Hp} {tt sa : Addr} {e : Str × V} {sd : List Int} (s : Same H H') (h : ToldAt H tt sa e sd) : ToldAt H' tt sa e sd := ⟨s _ _ h.t, s _ _ h.s⟩
theorem ToldAt.end_dp {K : PySem.W.Frag} {H : Hp} {tt sa : Addr} {e : Str × V} {sd : List Int} (h : ToldAt H tt sa e sd) (f : flatE e.2 = true) : Dp K H (.ref tt) (endDt e) := .tup (SqT.of h.t) (.cons (.str _) (.cons (vDt_dp f) .nil))
theorem ToldAt.run_dp {K : PySem.W.Frag} {H : Hp} {tt sa r : Addr} {e : Str × V} {sd : List Int} (h : ToldAt H tt sa e sd) (f : flatE e.2 = true) (er : H r = some (.tup [.ref tt, .ref sa])) : Dp K H (.ref r) (runDt e sd) := .tup (SqT.of er) (.cons (h.end_dp f) (.cons (.lst (SqL.of h.s) (dpInts sd)) .nil))
theorem ToldAt.in_dp {K : PySem.W.Frag} {H : Hp} {tt sa r : Addr} {e : Str × V} {sd : List Int} {n : Int} (h : ToldAt H tt sa e sd) (f : flatE e.2 = true) (er : H r = some (.tup [.ref tt, .ref sa, .int n])) : Dp K H (.ref r) (inDt e sd n) := .tup (SqT.of er) (.cons (h.end_dp f) (.cons (.lst (SqL.of h.s) (dpInts sd)) (.cons (.int n) .nil)))
end Ov

/-! ### what the law of k12 has in hand -/
namespace Ov
open PySem PySem.Spec PyProof.Rows L2
section
variable {pr : List (Int × W)} {ps : List (List Nat)} {dn : Nat → List Nat} {cs : List Int} {room far : Nat} {pa pb : List (Nat × Nat)} {z : Int} {p : Pap}
end
/-- `r[:3]` of what is told, and what run_in tells -/
theorem ne3_by {K : PySem.W.Frag} {H : Hp} {r tt sa r' tt' sa' : Addr} {e : Str × V} {sd : List Int} {n : Nat} {Q : VK} (h : H r = some (.tup [.ref tt, .ref sa, .int (n : Int)])) (ha : ToldAt H tt sa e sd) (h' : H r' = some (.tup [.ref tt', .ref sa', .int (n : Int)])) (hb : ToldAt H tt' sa' e sd)
    (fl : flatE e.2 = true) (ly : LayE e) (q : Q (.bl false) H) : rNeD K (.ref r) (.ref r') H Q := by
  refine ⟨inDt e sd n, inDt e sd n, ha.in_dp fl h, hb.in_dp fl h', inDt_sh ly _ _, inDt_sh ly _ _, ?_⟩
  rw [inDt_eqv fl]
  exact q
theorem ne2_by {K : PySem.W.Frag} {H : Hp} {r tt sa r' tt' sa' : Addr} {e : Str × V} {sd : List Int} {Q : VK} (h : H r = some (.tup [.ref tt, .ref sa])) (ha : ToldAt H tt sa e sd) (h' : H r' = some (.tup [.ref tt', .ref sa'])) (hb : ToldAt H tt' sa' e sd)
    (fl : flatE e.2 = true) (ly : LayE e) (q : Q (.bl false) H) : rNeD K (.ref r) (.ref r') H Q := by
  refine ⟨runDt e sd, runDt e sd, ha.run_dp fl h, hb.run_dp fl h', runDt_sh ly _, runDt_sh ly _, ?_⟩
  rw [runDt_eqv fl]
  exact q
end Ov

/-! ### what the law of k07 compares: trees as data, sums of sizes -/
namespace Ov
open PySem PySem.Spec PyProof.Rows L2
def treeD (ps : List (List Nat)) (st : List Int) : PyData := .tuple [.tuple (ps.map partD), .tuple (st.map PyData.int)]
theorem TrAt.dp {K : PySem.W.Frag} {H : Hp} {v : V} {ps : List (List Nat)} {st : List Int} (h : TrAt H v ps st) : Dp K H v (treeD ps st) := by
  obtain ⟨a, pa, sa, vs, rfl, e, e1, hp, e2⟩ := h
  exact .tup (SqT.of e) (.cons (.tup (SqT.of e1) (parts_dp hp)) (.cons (.tup (SqT.of e2) (dpInts st)) .nil))
theorem eqv_parts (ps qs : List (List Nat)) : PyData.eqvAll (ps.map partD) (qs.map partD) = decide (ps = qs) := eqvAll_map eqv_part ps qs
theorem eqv_tree (ps qs : List (List Nat)) (st ts : List Int) : PyData.eqv (treeD ps st) (treeD qs ts) = decide (ps = qs ∧ st = ts) := by
  have h1 := eqv_parts ps qs
  have h2 := eqv_intsAll st ts
  simp only [treeD, PyData.eqv, PyData.eqvAll, h1, h2, Bool.and_true]
  exact (Bool.decide_and _ _).symm
theorem tree_sh (ps : List (List Nat)) (st : List Int) : SeqAt.shaped (treeD ps st) = true := by
  obtain ⟨h1, h2⟩ := parts_lay ps
  have z := intsLay st
  have y := intsDepth st
  unfold SeqAt.shaped
  simp [treeD, PyData.canLay0, PyData.canLayAll0, PyData.depth, PyData.depthAll, z, y, h1]
  omega
theorem psz_range (pr : List (Int × W)) : ∀ n, n ≤ pr.length → psz pr (List.range n) = ((pr.take n).map (·.1)).sum
  | 0, _ => rfl
  | n + 1, h => by
    have e : pr[n]? = some pr[n] := List.getElem?_eq_getElem (by omega)
    rw [List.range_succ, psz_snoc, psz_range pr n (by omega), List.take_add_one, e, List.map_append, List.sum_append]
    have f : fsz pr n = pr[n].1 := by
      unfold fsz
      rw [e]
      rfl
    rw [f]
    show _ = _ + (pr[n].1 + 0)
    omega
theorem psz_whole (pr : List (Int × W)) : psz pr (List.range pr.length) = (pr.map (·.1)).sum := by
  rw [psz_range pr _ (Nat.le_refl _), List.take_length]
theorem ite_no {b : Bool} {A B : Prop} (h : b = true → B → A) (q : B) : if b = true then A else B := by
  cases b
  · exact q
  · exact h rfl q
theorem neI_no {i j : Int} (e : i = j) : (!decide (V.int i = V.int j)) = false := by
  rw [e, decide_eq_true rfl]
  rfl
/-- how the renamed run ends -/
theorem ren_end (s : Nat → Nat) (r : Res) : endD (r.ren s) = match r with
    | .ok (.way f) _ => ("way", .int ((s f : Nat) : Int))
    | _ => endD r := by
  cases r with
  | ok v a => cases v <;> rfl
  | bad f a => rfl
theorem ren_said (s : Nat → Nat) (r : Res) : (r.ren s).st.said = r.st.said := by cases r <;> rfl
theorem ren_row (s : Nat → Nat) (r : Res) : (r.ren s).st.row = r.st.row.map s := by cases r <;> rfl
theorem evR_way {pr : List (Int × W)} (hok : PrOk pr) {z : Int} (h0 : 0 ≤ z) (h1 : z < 1000) {f : Nat} {x : RS} (e : evR pr z = .ok (.way f) x) : f < pr.length := by
  obtain ⟨p0, hp0⟩ : ∃ p, pr[0]? = some p := ⟨_, List.getElem?_eq_getElem hok.l1⟩
  have gd := evB_good (n := pr.length) (call := evC pr 12 0) (a := .num z) (fun f' u' s' h1 h2 => evC_good hok 12 0 f' u' s' h1 h2) ⟨h0, h1⟩ 7 p0.2 ⟨[], 0, [0], [(0, .num z)], []⟩ (hok.f p0 (List.mem_of_getElem? hp0)).2.2.1
  unfold evR at e
  rw [hp0] at e
  change ((evB (evC pr 12 0) (.num z) 7 p0.2 ⟨[], 0, [0], [(0, .num z)], []⟩).bind fun v s => .ok v { s with told := s.told ++ [(0, v)] }) = _ at e
  generalize evB (evC pr 12 0) (.num z) 7 p0.2 _ = rs at gd e
  cases rs with
  | bad _ _ => cases e
  | ok v s2 =>
    have e2 : v = .way f := by
      have e : Res.ok v _ = Res.ok (.way f) x := e
      exact (Res.ok.inj e).1
    rw [e2] at gd
    exact gd.1
end Ov

/-! ### all trees in the heap; the promises of trees_of, stands_of, partitions -/
namespace Ov
open PySem PySem.Spec PyProof.Rows L2
def PtsAt (H : Hp) (v : V) (ps : List (List Nat)) : Prop := ∃ a us, v = .ref a ∧ H a = some (.tup us) ∧ Paired (PartAt H) us ps
def RowI (H : Hp) (v : V) (st : List Int) : Prop := ∃ a, v = .ref a ∧ H a = some (.tup (st.map V.int))
theorem PtsAt.keep {H H' : Hp} {v : V} {ps : List (List Nat)} (k : Keep H H') (h : PtsAt H v ps) : PtsAt H' v ps := let ⟨a, us, e, h1, h2⟩ := h; ⟨a, us, e, k _ _ h1, L2.Paired.mapP h2 fun _ _ z => z.keep k⟩
theorem RowI.keep {H H' : Hp} {v : V} {st : List Int} (k : Keep H H') (h : RowI H v st) : RowI H' v st := let ⟨a, e, h1⟩ := h; ⟨a, e, k _ _ h1⟩
theorem TrAt.of {H : Hp} {t : Addr} {x y : V} {ps : List (List Nat)} {st : List Int} (e : H t = some (.tup [x, y])) (h1 : PtsAt H x ps) (h2 : RowI H y st) : TrAt H (.ref t) ps st := by
  obtain ⟨a, us, rfl, e1, hp⟩ := h1
  obtain ⟨b, rfl, e2⟩ := h2
  exact ⟨t, a, b, us, rfl, e, e1, hp, e2⟩
theorem cat_ld {K : PySem.W.Frag} {a b : Addr} {xs ys : List V} {H : Hp} {Q : VK} (ha : H a = some (.tup xs)) (hb : H b = some (.tup ys)) (hl : xs.length + ys.length ≤ 1000) (q : ∀ H' p, Same H H' → H' p = some (.tup (xs ++ ys)) → Q (.ref p) H') : rCatA K (.ref a) (.ref b) H Q :=
  ⟨a, b, xs, ys, rfl, rfl, SqT.of ha, SqT.of hb, sml _ hl, fun e => q H b (Same.refl H) (by rw [e]; exact hb), fun _ e => q H a (Same.refl H) (by rw [e, List.append_nil]; exact ha), fun _ _ p hp => q _ p (Same.new hp) upd_same⟩
theorem sl_to {K : PySem.W.Frag} {a : Addr} {xs : List V} {H : Hp} {Q : VK} {k : Nat} {hi : Option Int} (ehi : hi = some (k : Int)) (ha : H a = some (.tup xs)) (hk : k ≤ xs.length) (q : ∀ H' p, Same H H' → H' p = some (.tup (xs.take k)) → Q (.ref p) H') : rSlA K (.ref a) none hi H Q := by
  subst ehi
  refine ⟨a, xs, rfl, SqT.of ha, fun z => ?_, fun _ p hp => ?_⟩
  · have z := z.2
    rw [HT.sIx_nat, Nat.min_eq_left hk] at z
    exact q H a (Same.refl H) (by rw [z, List.take_length]; exact ha)
  · rw [cut_to _ _ hk]
    exact q _ p (Same.new hp) upd_same
theorem sl_from {K : PySem.W.Frag} {a : Addr} {xs : List V} {H : Hp} {Q : VK} {k : Nat} {lo : Option Int} (elo : lo = some (k : Int)) (ha : H a = some (.tup xs)) (hk : k ≤ xs.length) (q : ∀ H' p, Same H H' → H' p = some (.tup (xs.drop k)) → Q (.ref p) H') : rSlA K (.ref a) lo none H Q := by
  subst elo
  refine ⟨a, xs, rfl, SqT.of ha, fun z => ?_, fun _ p hp => ?_⟩
  · have z := z.1
    rw [HT.sIx_nat, Nat.min_eq_left hk] at z
    exact q H a (Same.refl H) (by rw [z, List.drop_zero]; exact ha)
  · rw [cut_from _ _ hk]
    exact q _ p (Same.new hp) upd_same
end Ov

namespace K07
open PySem PySem.Spec PyProof.Rows L2 Ov
section
variable {P : Program} {w : World} {K : PySem.W.Frag} {mg : Str → Option Value} {base : Heap}
theorem sc_law_next : FnScope ["_law_h", "_law_many", "_law_at", "_law_cell"] ["_law_h", "_law_many"] (defScope s_law_next) := ⟨rfl, rfl, rfl, by decide +kernel, rfl, by decide +kernel, by decide +kernel⟩
-- 0 _law_h, 1 _law_many, 2 _law_at, 3 _law_cell
theorem ok_law_next (T : Txt w K mg) : FnOk P w K mg base CX0 1 (He.ga K "_law_next") (fdOf K d_law_next) ["_law_h", "_law_many"] spNext := by
  refine T.F_law_next.ok sc_law_next (fun vs H Q E h => ?_) (fun cdv A outer s H vs Q E hr h => ?_)
  · obtain ⟨h, c, n, rfl, _⟩ := h
    rfl
  obtain ⟨h, c, n, rfl, ⟨m, k, xs, hh, hc, h63⟩, n0, n1, q⟩ := h
  have nhc : h ≠ c := Dr.ne ⟨m, k, xs, hh, hc, h63⟩
  refine ⟨_, PSs.nox (pss_cons (ps_set (i := 2) sc_law_next.nd rfl (by first | exact Or.inl rfl | exact Or.inr rfl) (pe_op op_mod (pe_ix (r := rIxL K) ix_list (pv 0) pe_int (fun _ _ => rfl)) (pe_callB (call_max2 rfl) (by rfl) T.z_max (by decide +kernel) (pa_cons pe_int (pa_cons (pe_callB (r := Evl.rLenS K) call_len_seq (by rfl) T.z_len PySem.boot_len (pa_cons (pe_ix (r := rIxL K) ix_list (pv 0) pe_int (fun _ _ => rfl)) pa_nil)) pa_nil)))))
      (Evl.pss_cut (ps_set (i := 3) sc_law_next.nd rfl (by first | exact Or.inl rfl | exact Or.inr rfl) (pe_ifExp (pt_cmpR (r := rNeD K) (op_neD hr.units) (pe_ix (r := rIxL K) ix_list (pv 0) pe_int (fun _ _ => rfl)) (pe_lst pa_nil) (nomark _)) (pe_ix (r := rIxL K) ix_list (pe_ix (r := rIxL K) ix_list (pv 0) pe_int (fun _ _ => rfl)) (pv 2) (fun _ _ => rfl)) pe_int))
      (pss_cons (ps_if (pt_cmpR op_ge (pv 3) (pe_op op_pow pe_int pe_int) (nomark _)) (pss_cons (ps_asg (pe_op op_fdiv (pv 3) (pv 1)) (pg_sub (pe_ix (r := rIxL K) ix_list (pv 0) pe_int (fun _ _ => rfl)) (pv 2) set_list))
      (pss_one (ps_ret (pe_op op_mod (pv 3) (pv 1))))) pss_nil)
      (pss_cons (ps_asg (pe_op op_mod (pe_op op_add (pe_op op_add (pe_op op_mul (pe_ix (r := rIxL K) ix_list (pv 0) pe_int (fun _ _ => rfl)) pe_int) (pe_op op_mul (pv 3) pe_int)) pe_int) pe_int) (pg_sub (pv 0) pe_int set_list))
      (pss_cons (ps_asg (pe_op op_add (pe_ix (r := rIxL K) ix_list (pv 0) pe_int (fun _ _ => rfl)) pe_int) (pg_sub (pv 0) pe_int set_list))
      (pss_one (ps_ret (pe_op op_mod (pe_op op_fdiv (pe_ix (r := rIxL K) ix_list (pv 0) pe_int (fun _ _ => rfl)) pe_int) (pv 1))))))))), ?_⟩
  have hm : (0 : Int) < (if ((xs.map V.int).length : Int) > 1 then ((xs.map V.int).length : Int) else 1) := by split <;> omega
  refine ⟨_, rfl, h, _, 2, .int k, rfl, rfl, SqL.of hh, rfl, _, rfl, h, _, 1, .ref c, rfl, rfl, SqL.of hh, rfl, c, _, rfl, .inl (SqL.of hc), 1, _, rfl, k, _, rfl, rfl, hm, ?_⟩
  have ht : xs ≠ [] → ∃ (j : Nat) (z : Int), k % (if ((xs.map V.int).length : Int) > 1 then ((xs.map V.int).length : Int) else 1) = (j : Int) ∧ j < xs.length ∧ xs[j]? = some z := fun ne => by
    have l1 : 0 < xs.length := (by cases xs with | nil => exact absurd rfl ne | cons _ _ => exact Nat.succ_pos _)
    have b0 := Int.emod_nonneg k (Int.ne_of_gt hm)
    have b1 := Int.emod_lt_of_pos k hm
    generalize k % (if ((xs.map V.int).length : Int) > 1 then ((xs.map V.int).length : Int) else 1) = t at b0 b1
    have b2 : t < (xs.length : Int) := by
      rw [List.length_map] at b1
      split at b1 <;> omega
    have b3 : t.toNat < xs.length := by omega
    exact ⟨t.toNat, xs[t.toNat], by omega, b3, List.getElem?_eq_getElem b3⟩
  show Evl.tCut _ _ _ ([some (.ref h), some (.int n), some (.int (k % (if ((xs.map V.int).length : Int) > 1 then ((xs.map V.int).length : Int) else 1))), none] : L2.St) _
  generalize k % (if ((xs.map V.int).length : Int) > 1 then ((xs.map V.int).length : Int) else 1) = t at ht
  refine ⟨fun σ' H' => ∃ z : Int, σ' = [some (.ref h), some (.int n), some (.int t), some (.int z)] ∧ H' h = some (.lst [.int m, .ref c, .int k]) ∧ H' c = some (.lst (xs.map V.int)) ∧ But h c H H' ∧ (z ≠ 0 → ∃ j : Nat, t = (j : Int) ∧ j < xs.length), ?_, ?_⟩
  · refine ⟨_, rfl, h, _, 1, .ref c, rfl, rfl, SqL.of hh, rfl, sml 0, fun p hp => ?_⟩
    have ph : h ≠ p := ne_of_none hh hp
    have pc : c ≠ p := ne_of_none hc hp
    have hh1 : upd H p (.lst []) h = some (.lst [.int m, .ref c, .int k]) := by rw [upd_ne ph]; exact hh
    have hc1 : upd H p (.lst []) c = some (.lst (xs.map V.int)) := by rw [upd_ne pc]; exact hc
    refine ⟨.list (xs.map PyData.int), .list [], .lst (SqL.of hc1) (dpInts xs), .lst (SqL.of upd_same) .nil, intsShaped xs, intsShaped [], _, rfl, ?_⟩
    rw [eqvNil]
    by_cases e : xs = []
    · have e1 : xs.isEmpty = true := by rw [e]; rfl
      rw [e1]
      refine iteF ?_
      exact ⟨0, rfl, hh1, hc1, But.new hp, fun h => absurd rfl h⟩
    · have e1 : xs.isEmpty = false := by
        cases xs with
        | nil => exact absurd rfl e
        | cons _ _ => rfl
      rw [e1]
      refine iteT ?_
      obtain ⟨j, z, ej, hj, hz⟩ := ht e
      refine ⟨_, rfl, h, _, 1, .ref c, rfl, rfl, SqL.of hh1, rfl, _, rfl, c, _, t, .int z, rfl, rfl, SqL.of hc1, by rw [ej]; exact atI_nat (by rw [List.getElem?_map, hz]; rfl), ?_⟩
      exact ⟨z, rfl, hh1, hc1, But.new hp, fun _ => ⟨j, ej, hj⟩⟩
  rintro σ1 H1 ⟨z, rfl, hh1, hc1, b1, hz⟩
  refine ⟨_, rfl, 10, 18, rfl, rfl, (by refine ⟨by decide, by decide, by decide⟩), z, _, rfl, rfl, _, rfl, ite2 (fun e => ?_) (fun e => ?_)⟩
  · have e1 : (10 : Int) ^ (18 : Int).toNat ≤ z := of_decide_eq_true e
    have e2 : (0 : Int) < (10 : Int) ^ (18 : Int).toNat := by decide
    obtain ⟨j, ej, hj⟩ := hz (by omega)
    refine ⟨_, rfl, _, rfl, z, n, rfl, rfl, ⟨n0, by omega⟩, ?_⟩
    refine ⟨_, rfl, h, _, 1, .ref c, rfl, rfl, SqL.of hh1, rfl, _, rfl, c, _, t, j, rfl, rfl, hc1, ?_, ?_⟩
    · rw [ej]
      unfold ixN
      rw [List.length_map, if_pos (by omega), if_pos (by omega)]
      simp
    refine ⟨_, rfl, _, rfl, z, n, rfl, rfl, n0, ?_⟩
    refine q _ _ (Int.emod_nonneg _ (by omega)) (Int.emod_lt_of_pos _ n0) (b1.trans But.updc) ⟨m, k, xs.set j (z / n), ?_, ?_, ?_⟩
    · rw [upd_ne nhc]; exact hh1
    · rw [upd_same, List.map_set]
    · rw [List.length_set]; exact h63
  · refine ⟨_, rfl, h, _, 0, .int m, rfl, rfl, SqL.of hh1, rfl, m, 48271, rfl, rfl, .inr (by decide), _, rfl, z, 69621, rfl, rfl, .inr (by decide), _, _, rfl, rfl, _, 11, rfl, rfl, _, 2147483647, rfl, rfl, (by show (0 : Int) < 2147483647; decide), ?_⟩
    refine ⟨_, rfl, h, _, 0, 0, rfl, rfl, hh1, rfl, ?_⟩
    refine ⟨_, rfl, h, _, 2, .int k, rfl, rfl, SqL.of upd_same, rfl, k, 1, rfl, rfl, _, rfl, h, _, 2, 2, rfl, rfl, upd_same, rfl, ?_⟩
    refine ⟨_, rfl, h, _, 0, .int ((m * 48271 + z * 69621 + 11) % 2147483647), rfl, rfl, SqL.of upd_same, rfl, _, 7, rfl, rfl, ⟨by decide, by decide⟩, _, rfl, _, n, rfl, rfl, n0, ?_⟩
    refine q _ _ (Int.emod_nonneg _ (by omega)) (Int.emod_lt_of_pos _ n0) (b1.trans (But.updh.trans But.updh)) ⟨(m * 48271 + z * 69621 + 11) % 2147483647, k + 1, xs, upd_same, ?_, h63⟩
    rw [upd_ne nhc.symm, upd_ne nhc.symm]
    exact hc1
theorem sc_law_mix : FnScope ["_law_script", "_law_seed", "_law_mixed", "_law_cell"] ["_law_script", "_law_seed"] (defScope s_law_mix) := ⟨rfl, rfl, rfl, by decide +kernel, rfl, by decide +kernel, by decide +kernel⟩
-- 0 _law_script, 1 _law_seed, 2 _law_mixed, 3 _law_cell
theorem ok_law_mix (T : Txt w K mg) : FnOk P w K mg base CX0 1 (He.ga K "_law_mix") (fdOf K d_law_mix) ["_law_script", "_law_seed"] (spMix K) := by
  refine T.F_law_mix.ok sc_law_mix (fun vs H Q E h => ?_) (fun cdv A outer s H vs Q E hr h => ?_)
  · obtain ⟨a, ns, z, rfl, _⟩ := h
    rfl
  obtain ⟨a, ns, z, rfl, hS, h63, z0, z1, q⟩ := h
  refine ⟨_, PSs.nox (pss_cons (ps_set (i := 2) sc_law_mix.nd rfl (by first | exact Or.inl rfl | exact Or.inr rfl) (pv 1))
      (pss_cons (ps_for PassesOwn.never rfl (Ov.pi_listK (K := K) rfl (pv 0)) (pg_name (i := 3) sc_law_mix.nd rfl (by first | exact Or.inl rfl | exact Or.inr rfl)) (pss_one (ps_set (i := 2) sc_law_mix.nd rfl (by first | exact Or.inl rfl | exact Or.inr rfl) (pe_op op_mod (pe_op op_add (pe_op op_add (pe_op op_mul (pv 2) pe_int) (pe_op op_mod (pv 3) pe_int)) pe_int) pe_int))))
      (pss_one (ps_ret (pe_lst (pa_cons (pv 2) (pa_cons (pe_callTy (r := Evl.rListS K) call_list_of (by rfl) T.z_list (by decide +kernel) (pa_cons (pv 0) pa_nil)) (pa_cons pe_int pa_nil)))))))), ?_⟩
  refine ⟨_, rfl, _, rfl, a, rfl, ⟨_, hS⟩, for_list (K := K) (a := a) (xs := ns.map V.int) (fun _ σ H' => ∃ (y : Int) (v : Option V), σ = [some (.ref a), some (.int z), some (.int y), v] ∧ H' = H) ⟨z, none, rfl, rfl⟩ (fun i σ H' _ ⟨_, _, _, e⟩ => by rw [e]; exact hS) ?_ ?_⟩
  · rintro i x σ H' hi ⟨y, v, rfl, rfl⟩
    obtain ⟨u, rfl⟩ : ∃ u, x = V.int u := by
      rw [List.getElem?_map] at hi
      cases e : ns[i]? with
      | none => rw [e] at hi; cases hi
      | some u => rw [e] at hi; exact ⟨u, (Option.some.inj hi).symm⟩
    refine ⟨_, rfl, y, 48271, rfl, rfl, .inr (by decide), _, rfl, u, 2147483629, rfl, rfl, (by show (0 : Int) < 2147483629; decide), _, _, rfl, rfl, _, 1, rfl, rfl, _, 2147483647, rfl, rfl, (by show (0 : Int) < 2147483647; decide), ?_⟩
    exact ⟨_, _, rfl, rfl⟩
  · rintro σ H' ⟨y, v, rfl, rfl⟩
    refine ⟨_, rfl, _, rfl, a, _, rfl, .inl hS, fun c hc => ⟨sml 3, fun h hh => ?_⟩⟩
    have nc : c ≠ h := fun e => by rw [e, upd_same] at hh; cases hh
    have hh0 : H' h = none := by rw [upd_ne nc.symm] at hh; exact hh
    refine q h c _ hh0 hc ((Same.new hc).trans (Same.new hh)) ⟨y, 0, ns, upd_same, ?_, h63⟩
    rw [upd_ne nc, upd_same]
end
end K07

namespace K07
open PySem PySem.Spec PyProof.Rows L2 Ov
section
variable {P : Program} {w : World} {K : PySem.W.Frag} {mg : Str → Option Value} {base : Heap}
theorem sc_law_leaf : FnScope ["_law_h", "_law_e", "_law_kind", "_law_some", "_law_k"] ["_law_h", "_law_e", "_law_kind"] (defScope s_law_leaf) := ⟨rfl, rfl, rfl, by decide +kernel, rfl, by decide +kernel, by decide +kernel⟩
-- 0 _law_h, 1 _law_e, 2 _law_kind, 3 _law_some, 4 _law_k
theorem ok_law_leaf (T : Txt w K mg) {n : Nat} : FnOk P w K mg base CX0 2 (He.ga K "_law_leaf") (fdOf K d_law_leaf) ["_law_h", "_law_e", "_law_kind"] (spWord n 1 (preLeaf n)) := by
  have G_law_next := ok_law_next (P := P) (base := base) T
  refine T.F_law_leaf.ok sc_law_leaf (fun vs H Q E h => ?_) (fun cdv A outer s H vs Q E hr h => ?_)
  · obtain ⟨h, c, ⟨e, k, rfl, _⟩, _⟩ := h
    rfl
  obtain ⟨h, c, ⟨e, k, rfl, kk, came, pl, kl, ps, ks, x⟩, dr, q⟩ := h
  refine ⟨_, PSs.nox (Evl.pss_cut (ps_set (i := 3) sc_law_leaf.nd rfl (by first | exact Or.inl rfl | exact Or.inr rfl) (pe_op op_rep (pe_op op_rep (pe_lst (pa_cons (pe_tup (pa_cons pe_str pa_nil)) pa_nil)) pe_int) (pe_callTy call_int1 (by rfl) T.z_int (by decide +kernel) (pa_cons (pe_cmpR op_eq (pe_dget (hu_of hr) (pv 1) pe_str (fun _ _ => rfl)) (pv 2) (nomark _)) pa_nil))))
      (Evl.pss_cut (ps_if (pt_cmpR op_eq (pv 2) pe_str (nomark _)) (pss_one (ps_set (i := 3) sc_law_leaf.nd rfl (by first | exact Or.inl rfl | exact Or.inr rfl) (pe_op op_cat (pv 3) (pe_lst (pa_cons (pe_tup (pa_cons pe_str (pa_cons (pe_ix (r := rIxL K) ix_list (pe_lst (pa_cons (pe_call G_law_next (hr.mono (by omega)) (by rfl) T.g_law_next T.kp_law_next T.b_law_next .nil pass0 (pa_cons (pv 0) (pa_cons pe_int pa_nil))) (pa_cons (pe_call G_law_next (hr.mono (by omega)) (by rfl) T.g_law_next T.kp_law_next T.b_law_next .nil pass0 (pa_cons (pv 0) (pa_cons pe_int pa_nil))) pa_nil))) (pe_call G_law_next (hr.mono (by omega)) (by rfl) T.g_law_next T.kp_law_next T.b_law_next .nil pass0 (pa_cons (pv 0) (pa_cons pe_int pa_nil))) (fun _ _ => rfl)) pa_nil))) pa_nil))))) (pss_one (ps_set (i := 3) sc_law_leaf.nd rfl (by first | exact Or.inl rfl | exact Or.inr rfl) (pe_op op_cat (pv 3) (pe_lc (own := [("_law_k", 4)]) rfl sc_law_leaf.nd (pi_range1 (by rfl) T.z_range (pa_cons pe_int pa_nil)) (blkOk_by (own := [("_law_k", 4)]) (N := ["_law_h", "_law_e", "_law_kind", "_law_some", "_law_k"]) (sc := defScope s_law_leaf) (by decide +kernel)) (fun _ _ _ _ _ => (pg_name (i := 4) sc_law_leaf.nd rfl (by first | exact Or.inl rfl | exact Or.inr rfl))) (fun _ _ _ _ _ => pts_nil) (fun _ _ _ _ _ => (pe_tup (pa_cons pe_str (pa_cons (pe_ix (r := rIxL K) ix_list (pe_dget (hu_of hr) (pv 1) pe_str (fun _ _ => rfl)) (pe_call G_law_next (hr.mono (by omega)) (by rfl) T.g_law_next T.kp_law_next T.b_law_next .nil pass0 (pa_cons (pv 0) (pa_cons (pe_callB (r := Evl.rLenS K) call_len_seq (by rfl) T.z_len PySem.boot_len (pa_cons (pe_dget (hu_of hr) (pv 1) pe_str (fun _ _ => rfl)) pa_nil)) pa_nil))) (fun _ _ => rfl)) pa_nil)))))))))
      (pss_one (ps_ret (pe_ix (r := rIxL K) ix_list (pv 3) (pe_call G_law_next (hr.mono (by omega)) (by rfl) T.g_law_next T.kp_law_next T.b_law_next .nil pass0 (pa_cons (pv 0) (pa_cons (pe_callB (r := Evl.rLenS K) call_len_seq (by rfl) T.z_len PySem.boot_len (pa_cons (pv 3) pa_nil)) pa_nil))) (fun _ _ => rfl)))))), ?_⟩
  have hk0 : Keep H H := Keep.refl H
  refine ⟨fun σ' H' => ∃ (l : Addr) (xs : List V), σ' = [some (.ref h), some (.ref e), some (.str k), some (.ref l), none] ∧ Same H H' ∧ H l = none ∧ H' l = some (.lst xs) ∧ xs.length ≤ 3 ∧ ∀ v ∈ xs, Wd H' n 1 v, ?_, ?_⟩
  · refine ⟨sml 1, fun t ht => ⟨sml 1, fun l hl => ⟨l, 3, _, rfl, rfl, upd_same, by decide, by decide, (by show 1 * 3 ≤ sizeLine; decide), fun p1 hp1 => ?_⟩⟩⟩
    have ntl : t ≠ l := fun z => by rw [z] at ht; rw [z, upd_same] at hl; cases hl
    have ntp : t ≠ p1 := fun z => by rw [z, upd_ne ((fun y => by rw [y, upd_same] at hp1; cases hp1) : p1 ≠ l), upd_same] at hp1; cases hp1
    have s1 : Same H (upd (upd (upd H t (.tup [.str "argument"])) l (.lst [.ref t])) p1 (.lst (List.replicate (3 : Int).toNat [V.ref t]).flatten)) := (Same.new ht).trans ((Same.new hl).trans (Same.new hp1))
    refine ⟨_, rfl, e, .str came, rfl, DGet.k (k := Sum.inr "came") (s1 _ _ x.e), _, rfl, rfl, .inr ⟨_, rfl, ?_⟩⟩
    refine ⟨p1, _, _, rfl, rfl, upd_same, ?_, ?_, ?_, fun p2 hp2 => ?_⟩
    · split <;> decide
    · split <;> decide
    · split
      · show 3 * 1 ≤ sizeLine
        decide
      · show 3 * 0 ≤ sizeLine
        decide
    refine ⟨p2, _, rfl, s1.trans (Same.new hp2), s1.free hp2, upd_same, ?_, fun v hv => ?_⟩
    · split
      · exact Nat.le_refl 3
      · exact Nat.zero_le 3
    · have ev : v = .ref t := by
        split at hv
        · have hv2 : v ∈ [V.ref t, .ref t, .ref t] := hv
          simpa using hv2
        · cases hv
      rw [ev]
      refine wd0 (d := 0) .arg 0 ?_ trivial
      have np2 : t ≠ p2 := fun z => by
        rw [← z, upd_ne ntp, upd_ne ntl, upd_same] at hp2
        cases hp2
      rw [upd_ne np2, upd_ne ntp, upd_ne ntl, upd_same]
      rfl
  rintro σ1 H1 ⟨l, xs, rfl, s1, hl0, hl, hx3, hw⟩
  have d1 : Dr H1 h c := dr.same s1
  have x1 := x.same s1
  have lh := (Dr.new dr hl0)
  have b1 : But h c H H1 := .same s1
  refine ⟨fun σ' H' => ∃ (l : Addr) (xs : List V), σ' = [some (.ref h), some (.ref e), some (.str k), some (.ref l), none] ∧ But h c H H' ∧ Dr H' h c ∧ l ≠ h ∧ l ≠ c ∧ H' l = some (.lst xs) ∧ xs ≠ [] ∧ xs.length ≤ 9 ∧ ∀ v ∈ xs, Wd H' n 1 v, ?_, ?_⟩
  · refine ⟨_, rfl, rfl, _, rfl, ite2 (fun ek => ?_) (fun ek => ?_)⟩
    · refine ⟨_, rfl, _, rfl, h, c, 4, rfl, d1, by decide, by decide, fun r1 H2 r10 r11 b2 d2 => ?_⟩
      refine ⟨_, rfl, h, c, 100, rfl, d2, by decide, by decide, fun r2 H3 r20 r21 b3 d3 => ⟨sml 2, fun l2 hl2 => ?_⟩⟩
      have d3' : Dr (upd H3 l2 (.lst [.int r1, .int r2])) h c := d3.same (Same.new hl2)
      refine ⟨_, rfl, h, c, 2, rfl, d3', by decide, by decide, fun r3 H4 r30 r31 b4 d4 => ?_⟩
      have n2 := Dr.new d3 hl2
      refine ⟨l2, _, r3, _, rfl, rfl, SqL.of (b4 _ _ n2.1 n2.2 upd_same), two_at _ _ r30 r31, ?_⟩
      refine ⟨sml 2, fun t ht => ⟨sml 1, fun l3 hl3 => ?_⟩⟩
      have b14 : But h c H1 H4 := b2.trans (b3.trans ((But.new hl2).trans b4))
      have hl4 : H4 l = some (.lst xs) := b14 _ _ lh.1 lh.2 hl
      have s46 : Same H4 (upd (upd H4 t (.tup [.str "num", if r3 = 0 then .int r1 else .int r2])) l3 (.lst [.ref t])) := (Same.new ht).trans (Same.new hl3)
      refine ⟨l, l3, xs, _, rfl, rfl, s46 _ _ hl4, upd_same, sml _ (by rw [List.length_singleton]; omega), fun p hp => ?_⟩
      have s7 := s46.trans (Same.new (o := .lst (xs ++ [.ref t])) hp)
      have np := Dr.new (d4.same s46) hp
      have ntl3 : t ≠ l3 := fun z => by rw [z, upd_same] at hl3; cases hl3
      have ntp : t ≠ p := fun z => by rw [← z, upd_ne ntl3, upd_same] at hp; cases hp
      refine ⟨p, _, rfl, b1.trans (b14.trans (.same s7)), d4.same s7, np.1, np.2, upd_same, by simp, by rw [List.length_append, List.length_singleton]; omega, wds_app (wds_keep ((Keep.but b14 d1).trans (Keep.same s7)) hw) (wds_one ?_)⟩
      refine wd0 (d := 0) .num (if r3 = 0 then r1 else r2) ?_ (by split <;> exact ⟨by omega, by omega⟩)
      rw [upd_ne ntp, upd_ne ntl3, upd_same]
      split <;> rfl
    · refine ⟨_, rfl, 2, rfl, by decide, by decide, fun D hD => ?_⟩
      have nD := Dr.new d1 hD
      refine lc_rangeY (lo := 0) (n := 2) (fun i H' => ∃ acc, But h c H1 H' ∧ Dr H' h c ∧ H' D = some (.lst acc) ∧ acc.length = i ∧ ∀ v ∈ acc, Wd H' n 1 v) ⟨[], But.new hD, d1.same (Same.new hD), upd_same, rfl, fun _ h => by cases h⟩ ?_ ?_
      · rintro i H2 hi ⟨acc, b2, d2, hacc, hlen, hwa⟩
        have x2 := x1.but d1 b2
        refine ⟨rfl, ?_⟩
        refine ⟨_, rfl, e, .ref pl, rfl, DGet.k (k := Sum.inr "plain") x2.e, ?_⟩
        refine ⟨_, rfl, _, rfl, e, .ref pl, rfl, DGet.k (k := Sum.inr "plain") x2.e, pl, _, rfl, .inl (SqL.of x2.p), ?_⟩
        refine ⟨h, c, _, rfl, d2, (by rw [List.length_map]; have := List.length_pos_iff.mpr x2.p0; omega), (by rw [List.length_map]; have := x2.p8; omega), fun r H3 r0 r1 b3 d3 => ?_⟩
        have x3 := x2.but d2 b3
        rw [List.length_map] at r1
        obtain ⟨z, hz, ez⟩ := int_at (P := fun x => 0 ≤ x ∧ x < n) x3.pn r0 r1
        refine ⟨pl, _, r, .int z, rfl, rfl, SqL.of x3.p, ez, sml 2, fun t ht => ?_⟩
        have hacc3 : H3 D = some (.lst acc) := b3 _ _ nD.1 nD.2 hacc
        have d4 : Dr (upd H3 t (.tup [.str "way", .int z])) h c := d3.same (Same.new ht)
        have ntD : D ≠ t := ne_of_none hacc3 ht
        have k24 : Keep H2 (upd H3 t (.tup [.str "way", .int z])) := (Keep.but b3 d2).trans (Keep.same (Same.new ht))
        have hD4 : (upd H3 t (.tup [.str "way", .int z])) D = some (.lst acc) := by rw [upd_ne ntD]; exact hacc3
        have hw4 : ∀ v ∈ acc ++ [V.ref t], Wd (upd H3 t (.tup [.str "way", .int z])) n 1 v := wds_app (wds_keep k24 hwa) (wds_one (wd0 (d := 0) .way z upd_same hz))
        exact ⟨acc, hD4, sm _, acc ++ [.ref t], ((b2.trans b3).trans (But.new ht)).updn hD, d4.upd nD.1 nD.2, upd_same, by rw [List.length_append, List.length_singleton, hlen], wds_keep (Keep.updL hD4) hw4⟩
      · rintro H2 ⟨acc, b2, d2, hacc, hlen, hwa⟩
        have hl2 : H2 l = some (.lst xs) := b2 _ _ lh.1 lh.2 hl
        refine ⟨l, D, xs, acc, rfl, rfl, hl2, hacc, sml _, fun p hp => ?_⟩
        have np := Dr.new d2 hp
        refine ⟨p, _, rfl, b1.trans (b2.trans (But.new hp)), d2.same (Same.new hp), np.1, np.2, upd_same, ?_, by rw [List.length_append]; omega, wds_keep (Keep.same (Same.new hp)) (wds_app (wds_keep (Keep.but b2 d1) hw) hwa)⟩
        intro z
        have z2 := congrArg List.length z
        rw [List.length_append, hlen] at z2
        simp at z2
  rintro σ2 H2 ⟨l, xs, rfl, b2, d2, lh, lc, hl, hx0, hx9, hw⟩
  have hx1 : 0 < xs.length := List.length_pos_iff.mpr hx0
  refine ⟨_, rfl, _, rfl, _, rfl, l, _, rfl, .inl (SqL.of hl), h, c, _, rfl, d2, by omega, by omega, fun r H3 r0 r1 b3 d3 => ?_⟩
  obtain ⟨v, hv, ev⟩ := val_at hw r0 r1
  exact ⟨l, _, r, v, rfl, rfl, SqL.of (b3 _ _ lh lc hl), ev, q v H3 (b2.trans b3) d3 (hv.keep (Keep.but b3 d2))⟩
end
end K07

namespace K07
open PySem PySem.Spec PyProof.Rows L2 Ov
section
variable {P : Program} {w : World} {K : PySem.W.Frag} {mg : Str → Option Value} {base : Heap}
theorem sc_law_less : FnScope ["_law_h", "_law_e", "_law_deep"] ["_law_h", "_law_e", "_law_deep"] (defScope s_law_less) := ⟨rfl, rfl, rfl, by decide +kernel, rfl, by decide +kernel, by decide +kernel⟩
-- 0 _law_h, 1 _law_e, 2 _law_deep
theorem ok_law_less (T : Txt w K mg) {n m : Nat} (G_law_body : FnOk P w K mg base CX0 (3 * m + 3) (He.ga K "_law_body") (fdOf K d_law_body) ["_law_h", "_law_e", "_law_kind", "_law_deep"] (spWord n (m + 2) (preBody n m))) :
    FnOk P w K mg base CX0 (3 * m + 4) (He.ga K "_law_less") (fdOf K d_law_less) ["_law_h", "_law_e", "_law_deep"] (spWord n (m + 2) (preDeep n m)) := by
  have G_law_next := ok_law_next (P := P) (base := base) T
  refine T.F_law_less.ok sc_law_less (fun vs H Q E h => ?_) (fun cdv A outer s H vs Q E hr h => ?_)
  · obtain ⟨h, c, ⟨e, z, rfl, _⟩, _⟩ := h
    rfl
  obtain ⟨h, c, ⟨e, z, rfl, ez, x⟩, dr, q⟩ := h
  have x' := x
  obtain ⟨came, pl, kl, ps, ks, xe⟩ := x'
  refine ⟨_, PSs.nox (pss_cons (ps_if (PW.pt (pw_and (pt_cmpR op_eq (pe_dget (hu_of hr) (pv 1) pe_str (fun _ _ => rfl)) pe_str (nomark _)) (pw_and1 (pt_cmpR op_gt (pe_call G_law_next (hr.mono (by omega)) (by rfl) T.g_law_next T.kp_law_next T.b_law_next .nil pass0 (pa_cons (pv 0) (pa_cons pe_int pa_nil))) pe_int (nomark _))))) (pss_one (ps_ret (pe_tup (pa_cons pe_str (pa_cons (pe_tup (pa_cons pe_str pa_nil)) (pa_cons (pe_tup (pa_cons pe_str (pa_cons pe_int pa_nil))) pa_nil)))))) pss_nil)
      (pss_one (ps_ret (pe_call G_law_body (hr.mono (by omega)) (by rfl) T.g_law_body T.kp_law_body T.b_law_body .nil pass0 (pa_cons (pv 0) (pa_cons (pv 1) (pa_cons pe_str (pa_cons (pv 2) pa_nil)))))))), ?_⟩
  have go : ∀ H', But h c H H' → Dr H' h c → spWord n (m + 2) (preBody n m) [.ref h, .ref e, .str "number", .int z] H' Q E := fun H' b d => ⟨h, c, ⟨e, _, z, rfl, ez, kindN, x.but dr b⟩, d, fun v H2 b2 d2 hv => q v H2 (b.trans b2) d2 hv⟩
  refine ⟨_, rfl, e, .str came, rfl, DGet.k (k := Sum.inr "came") xe.e, rfl, _, rfl, ite2 (fun a => ?_) (fun a => ?_)⟩
  · refine ⟨_, rfl, h, c, 4, rfl, dr, by decide, by decide, fun r H2 r0 r1 b2 d2 => ⟨_, 0, rfl, rfl, _, rfl, ite2 (fun _ => ?_) (fun _ => ?_)⟩⟩
    · refine ⟨sml 1, fun t1 h1 => ⟨sml 2, fun t2 h2 => ⟨sml 3, fun t3 h3 => ?_⟩⟩⟩
      have s3 := (Same.new (o := .tup [.str "argument"]) h1).trans ((Same.new (o := .tup [.str "num", .int 1]) h2).trans (Same.new (o := .tup [.str "less", .ref t1, .ref t2]) h3))
      have n12 : t1 ≠ t2 := ne_of_none upd_same h2
      have n13 : t1 ≠ t3 := ne_of_none (by rw [upd_ne n12]; exact upd_same) h3
      have n23 : t2 ≠ t3 := ne_of_none upd_same h3
      refine q _ _ (b2.trans (.same s3)) (d2.same s3) (Wd.mono (wd2 (d := 1) .less 0 upd_same trivial (wd0 (d := 0) .arg 0 ?_ trivial) (wd0 (d := 0) .num 1 ?_ ⟨by decide, by decide⟩)) (by omega))
      · rw [upd_ne n13, upd_ne n12, upd_same]; rfl
      · rw [upd_ne n23, upd_same]; rfl
    · exact ⟨_, rfl, _, rfl, _, rfl, go H2 b2 d2⟩
  · exact ⟨_, rfl, _, rfl, _, rfl, go H (But.refl H) dr⟩
theorem sc_law_call : FnScope ["_law_h", "_law_e", "_law_deep", "_law_called", "_law_kind", "_law_arm"] ["_law_h", "_law_e", "_law_deep"] (defScope s_law_call) := ⟨rfl, rfl, rfl, by decide +kernel, rfl, by decide +kernel, by decide +kernel⟩
-- 0 _law_h, 1 _law_e, 2 _law_deep, 3 _law_called, 4 _law_kind, 5 _law_arm
theorem ok_law_call (T : Txt w K mg) {n m : Nat} (G_law_body : FnOk P w K mg base CX0 (3 * m + 3) (He.ga K "_law_body") (fdOf K d_law_body) ["_law_h", "_law_e", "_law_kind", "_law_deep"] (spWord n (m + 2) (preBody n m))) :
    FnOk P w K mg base CX0 (3 * m + 5) (He.ga K "_law_call") (fdOf K d_law_call) ["_law_h", "_law_e", "_law_deep"] (spWord n (m + 3) (preDeep n (m + 1))) := by
  have G_law_next := ok_law_next (P := P) (base := base) T
  have G_law_less := ok_law_less (P := P) (base := base) T G_law_body
  refine T.F_law_call.ok sc_law_call (fun vs H Q E h => ?_) (fun cdv A outer s H vs Q E hr h => ?_)
  · obtain ⟨h, c, ⟨e, z, rfl, _⟩, _⟩ := h
    rfl
  obtain ⟨h, c, ⟨e, z, rfl, ez, x⟩, dr, q⟩ := h
  have ez1 : z - 1 = (m : Int) := by omega
  refine ⟨_, PSs.nox (pss_cons (ps_if (pt_cmpR op_eq (pe_call G_law_next (hr.mono (by omega)) (by rfl) T.g_law_next T.kp_law_next T.b_law_next .nil pass0 (pa_cons (pv 0) (pa_cons pe_int pa_nil))) pe_int (nomark _)) (pss_one (ps_ret (pe_tup (pa_cons pe_str (pa_cons (pe_call G_law_body (hr.mono (by omega)) (by rfl) T.g_law_body T.kp_law_body T.b_law_body .nil pass0 (pa_cons (pv 0) (pa_cons (pv 1) (pa_cons pe_str (pa_cons (pe_op op_sub (pv 2) pe_int) pa_nil))))) (pa_cons (pe_call G_law_less (hr.mono (by omega)) (by rfl) T.g_law_less T.kp_law_less T.b_law_less .nil pass0 (pa_cons (pv 0) (pa_cons (pv 1) (pa_cons (pe_op op_sub (pv 2) pe_int) pa_nil)))) pa_nil)))))) pss_nil)
      (pss_cons (ps_set (i := 3) sc_law_call.nd rfl (by first | exact Or.inl rfl | exact Or.inr rfl) (pe_call G_law_next (hr.mono (by omega)) (by rfl) T.g_law_next T.kp_law_next T.b_law_next .nil pass0 (pa_cons (pv 0) (pa_cons (pe_callB (r := Evl.rLenS K) call_len_seq (by rfl) T.z_len PySem.boot_len (pa_cons (pe_dget (hu_of hr) (pv 1) pe_str (fun _ _ => rfl)) pa_nil)) pa_nil))))
      (pss_cons (ps_set (i := 4) sc_law_call.nd rfl (by first | exact Or.inl rfl | exact Or.inr rfl) (pe_ix (r := rIxL K) ix_list (pe_dget (hu_of hr) (pv 1) pe_str (fun _ _ => rfl)) (pv 3) (fun _ _ => rfl)))
      (Evl.pss_cut (ps_if (pt_cmpR op_eq (pe_call G_law_next (hr.mono (by omega)) (by rfl) T.g_law_next T.kp_law_next T.b_law_next .nil pass0 (pa_cons (pv 0) (pa_cons pe_int pa_nil))) pe_int (nomark _)) (pss_one (ps_set (i := 4) sc_law_call.nd rfl (by first | exact Or.inl rfl | exact Or.inr rfl) (pe_ix (r := rIxL K) ix_list (pe_lst (pa_cons pe_str (pa_cons pe_str pa_nil))) (pe_call G_law_next (hr.mono (by omega)) (by rfl) T.g_law_next T.kp_law_next T.b_law_next .nil pass0 (pa_cons (pv 0) (pa_cons pe_int pa_nil))) (fun _ _ => rfl)))) pss_nil)
      (pss_cons (ps_set (i := 5) sc_law_call.nd rfl (by first | exact Or.inl rfl | exact Or.inr rfl) (pe_ifExp (pt_cmpR op_eq (pv 4) pe_str (nomark _)) (pe_call G_law_less (hr.mono (by omega)) (by rfl) T.g_law_less T.kp_law_less T.b_law_less .nil pass0 (pa_cons (pv 0) (pa_cons (pv 1) (pa_cons (pe_op op_sub (pv 2) pe_int) pa_nil)))) (pe_call G_law_body (hr.mono (by omega)) (by rfl) T.g_law_body T.kp_law_body T.b_law_body .nil pass0 (pa_cons (pv 0) (pa_cons (pv 1) (pa_cons pe_str (pa_cons (pe_op op_sub (pv 2) pe_int) pa_nil)))))))
      (pss_one (ps_ret (pe_tup (pa_cons pe_str (pa_cons (pv 3) (pa_cons (pv 5) pa_nil))))))))))), ?_⟩
  refine ⟨_, rfl, h, c, 3, rfl, dr, by decide, by decide, fun r H2 r0 r1 b2 d2 => ⟨rfl, _, rfl, ite2 (fun _ => ?_) (fun _ => ?_)⟩⟩
  · refine ⟨_, rfl, _, rfl, _, rfl, z, 1, rfl, rfl, h, c, ⟨e, _, _, rfl, ez1, kindW, x.but dr b2⟩, d2, fun v1 H3 b3 d3 w1 => ?_⟩
    refine ⟨_, rfl, _, rfl, _, rfl, z, 1, rfl, rfl, h, c, ⟨e, _, rfl, ez1, (x.but dr b2).but d2 b3⟩, d3, fun v2 H4 b4 d4 w2 => ?_⟩
    refine ⟨sml 3, fun t ht => ?_⟩
    have k4 := Keep.same (Same.new (o := .tup [.str "through", v1, v2]) ht)
    exact q _ _ (b2.trans (b3.trans (b4.trans (But.new ht)))) (d4.same (Same.new ht)) (wd2 .through 0 upd_same trivial (w1.keep ((Keep.but b4 d3).trans k4)) (w2.keep k4))
  · obtain ⟨came, pl, kl, ps, ks, xe⟩ := x.but dr b2
    refine ⟨_, rfl, _, rfl, e, .ref kl, rfl, DGet.k (k := Sum.inr "kinds") xe.e, kl, _, rfl, .inl (SqL.of xe.k), ?_⟩
    refine ⟨h, c, _, rfl, d2, (by rw [List.length_map, xe.kn]; have := xe.n1; omega), (by rw [List.length_map, xe.kn]; have := xe.n8; omega), fun r3 H3 r30 r31 b3 d3 => ?_⟩
    rw [List.length_map] at r31
    have xe3 := xe.but d2 b3
    obtain ⟨kd, hkd, ekd⟩ := kind_at xe3.kk r30 r31
    refine ⟨_, rfl, e, .ref kl, rfl, DGet.k (k := Sum.inr "kinds") xe3.e, _, rfl, kl, _, r3, .str kd, rfl, rfl, SqL.of xe3.k, ekd, ?_⟩
    have x3 : preE n h c e H3 := ⟨came, pl, kl, ps, ks, xe3⟩
    have b13 := b2.trans b3
    refine ⟨fun σ' H' => ∃ kd, KindS kd ∧ σ' = [some (.ref h), some (.ref e), some (.int z), some (.int r3), some (.str kd), none] ∧ But h c H3 H' ∧ Dr H' h c, ?_, ?_⟩
    · refine ⟨_, rfl, h, c, 12, rfl, d3, by decide, by decide, fun r4 H4 r40 r41 b4 d4 => ⟨rfl, _, rfl, ite2 (fun _ => ?_) (fun _ => ?_)⟩⟩
      · refine ⟨sml 2, fun l hl => ?_⟩
        have d4' := d4.same (Same.new (o := .lst [.str "number", .str "way"]) hl)
        have nl := Dr.new d4 hl
        refine ⟨_, rfl, h, c, 2, rfl, d4', by decide, by decide, fun r5 H5 r50 r51 b5 d5 => ?_⟩
        obtain ⟨k5, hk5, e5⟩ := two_kinds r5 r50 r51
        exact ⟨l, _, r5, .str k5, rfl, rfl, SqL.of (b5 _ _ nl.1 nl.2 upd_same), e5, k5, hk5, rfl, b4.trans ((But.new hl).trans b5), d5⟩
      · exact ⟨kd, hkd, rfl, b4, d4⟩
    rintro σ5 H5 ⟨k5, hk5, rfl, b5, d5⟩
    have x5 := x3.but d3 b5
    have fin : ∀ v H6, But h c H5 H6 → Dr H6 h c → Wd H6 n (m + 2) v → tTup (tCons (tC (.str "call")) (tCons (tVar 3) (tCons (tVar 5) tNil))) [some (.ref h), some (.ref e), some (.int z), some (.int r3), some (.str k5), some v] H6 Q := fun v H6 b6 d6 w6 => by
      refine ⟨_, rfl, _, rfl, sml 3, fun t ht => ?_⟩
      have k6 := Keep.same (Same.new (o := .tup [.str "call", .int r3, v]) ht)
      refine q _ _ (b13.trans (b5.trans (b6.trans (But.new ht)))) (d6.same (Same.new ht)) (wd1 .call r3 upd_same ⟨r30, by rw [xe.kn] at r31; omega⟩ (w6.keep k6))
    refine ⟨_, rfl, rfl, _, rfl, ite2 (fun _ => ?_) (fun _ => ?_)⟩
    · exact ⟨_, rfl, _, rfl, _, rfl, z, 1, rfl, rfl, h, c, ⟨e, _, rfl, ez1, x5⟩, d5, fun v1 H6 b6 d6 w6 => fin v1 H6 b6 d6 w6⟩
    · exact ⟨_, rfl, _, rfl, _, rfl, z, 1, rfl, rfl, h, c, ⟨e, _, _, rfl, ez1, kindW, x5⟩, d5, fun v1 H6 b6 d6 w6 => fin v1 H6 b6 d6 w6⟩
theorem sc_law_body : FnScope ["_law_h", "_law_e", "_law_kind", "_law_deep", "_law_turn", "_law_test", "_law_other_here", "_law_word"] ["_law_h", "_law_e", "_law_kind", "_law_deep"] (defScope s_law_body) := ⟨rfl, rfl, rfl, by decide +kernel, rfl, by decide +kernel, by decide +kernel⟩
-- 0 _law_h, 1 _law_e, 2 _law_kind, 3 _law_deep, 4 _law_turn, 5 _law_test, 6 _law_other_here, 7 _law_word
theorem ok_law_body0 (T : Txt w K mg) {n : Nat} : FnOk P w K mg base CX0 3 (He.ga K "_law_body") (fdOf K d_law_body) ["_law_h", "_law_e", "_law_kind", "_law_deep"] (spWord n (0 + 2) (preBody n 0)) := by
  have G_law_next := ok_law_next (P := P) (base := base) T
  have G_law_leaf := ok_law_leaf (P := P) (base := base) (n := n) T
  refine T.F_law_body.ok sc_law_body (fun vs H Q E h => ?_) (fun cdv A outer s H vs Q E hr h => ?_)
  · obtain ⟨h, c, ⟨e, k, z, rfl, _⟩, _⟩ := h
    rfl
  obtain ⟨h, c, ⟨e, k, z, rfl, ez, hk, x⟩, dr, q⟩ := h
  refine ⟨_, PSs.nox (pss_cons (ps_set (i := 4) sc_law_body.nd rfl (by first | exact Or.inl rfl | exact Or.inr rfl) (pe_call G_law_next (hr.mono (by omega)) (by rfl) T.g_law_next T.kp_law_next T.b_law_next .nil pass0 (pa_cons (pv 0) (pa_cons pe_int pa_nil))))
      (pss_cons (ps_if (PW.pt (pw_or (pt_cmpR op_lt (pv 3) pe_int (nomark _)) (pw_or1 (pt_cmpR op_lt (pv 4) pe_int (nomark _))))) (pss_one (ps_ret (pe_call G_law_leaf (hr.mono (by omega)) (by rfl) T.g_law_leaf T.kp_law_leaf T.b_law_leaf .nil pass0 (pa_cons (pv 0) (pa_cons (pv 1) (pa_cons (pv 2) pa_nil)))))) pss_nil)
      pss_never)), ?_⟩
  refine ⟨_, rfl, h, c, 10, rfl, dr, by decide, by decide, fun r H2 r0 r1 b2 d2 => ?_⟩
  have hz : decide (z < 1) = true := decide_eq_true (by omega)
  refine ⟨_, rfl, z, 1, rfl, rfl, _, rfl, ?_⟩
  rw [hz]
  exact ⟨_, rfl, _, rfl, _, rfl, h, c, ⟨e, k, rfl, hk, x.but dr b2⟩, d2, fun v H3 b3 d3 w3 => q v H3 (b2.trans b3) d3 (w3.mono (by omega))⟩

theorem ok_law_bodyS (T : Txt w K mg) {n m : Nat} (G_law_body : FnOk P w K mg base CX0 (3 * m + 3) (He.ga K "_law_body") (fdOf K d_law_body) ["_law_h", "_law_e", "_law_kind", "_law_deep"] (spWord n (m + 2) (preBody n m))) :
    FnOk P w K mg base CX0 (3 * (m + 1) + 3) (He.ga K "_law_body") (fdOf K d_law_body) ["_law_h", "_law_e", "_law_kind", "_law_deep"] (spWord n ((m + 1) + 2) (preBody n (m + 1))) := by
  have G_law_next := ok_law_next (P := P) (base := base) T
  have G_law_leaf := ok_law_leaf (P := P) (base := base) (n := n) T
  have G_law_call := ok_law_call (P := P) (base := base) T G_law_body
  refine T.F_law_body.ok sc_law_body (fun vs H Q E h => ?_) (fun cdv A outer s H vs Q E hr h => ?_)
  · obtain ⟨h, c, ⟨e, k, z, rfl, _⟩, _⟩ := h
    rfl
  obtain ⟨h, c, ⟨e, k, z, rfl, ez, hk, x⟩, dr, q⟩ := h
  have ez1 : z - 1 = (m : Int) := by omega
  refine ⟨_, PSs.nox (pss_cons (ps_set (i := 4) sc_law_body.nd rfl (by first | exact Or.inl rfl | exact Or.inr rfl) (pe_call G_law_next (hr.mono (by omega)) (by rfl) T.g_law_next T.kp_law_next T.b_law_next .nil pass0 (pa_cons (pv 0) (pa_cons pe_int pa_nil))))
      (pss_cons (ps_if (PW.pt (pw_or (pt_cmpR op_lt (pv 3) pe_int (nomark _)) (pw_or1 (pt_cmpR op_lt (pv 4) pe_int (nomark _))))) (pss_one (ps_ret (pe_call G_law_leaf (hr.mono (by omega)) (by rfl) T.g_law_leaf T.kp_law_leaf T.b_law_leaf .nil pass0 (pa_cons (pv 0) (pa_cons (pv 1) (pa_cons (pv 2) pa_nil)))))) pss_nil)
      (pss_cons (ps_if (pt_cmpR op_lt (pv 4) pe_int (nomark _)) (pss_cons (ps_set (i := 5) sc_law_body.nd rfl (by first | exact Or.inl rfl | exact Or.inr rfl) (pe_call G_law_body (hr.mono (by omega)) (by rfl) T.g_law_body T.kp_law_body T.b_law_body .nil pass0 (pa_cons (pv 0) (pa_cons (pv 1) (pa_cons pe_str (pa_cons (pe_op op_sub (pv 3) pe_int) pa_nil))))))
      (pss_one (ps_ret (pe_tup (pa_cons pe_str (pa_cons (pv 5) (pa_cons (pe_call G_law_body (hr.mono (by omega)) (by rfl) T.g_law_body T.kp_law_body T.b_law_body .nil pass0 (pa_cons (pv 0) (pa_cons (pv 1) (pa_cons (pv 2) (pa_cons (pe_op op_sub (pv 3) pe_int) pa_nil))))) (pa_cons (pe_call G_law_body (hr.mono (by omega)) (by rfl) T.g_law_body T.kp_law_body T.b_law_body .nil pass0 (pa_cons (pv 0) (pa_cons (pv 1) (pa_cons (pv 2) (pa_cons (pe_op op_sub (pv 3) pe_int) pa_nil))))) pa_nil)))))))) pss_nil)
      (pss_cons (ps_if (pt_cmpR op_eq (pv 4) pe_int (nomark _)) (pss_cons (ps_set (i := 6) sc_law_body.nd rfl (by first | exact Or.inl rfl | exact Or.inr rfl) (pe_ix (r := rIxL K) ix_list (pe_lst (pa_cons pe_str (pa_cons pe_str pa_nil))) (pe_call G_law_next (hr.mono (by omega)) (by rfl) T.g_law_next T.kp_law_next T.b_law_next .nil pass0 (pa_cons (pv 0) (pa_cons pe_int pa_nil))) (fun _ _ => rfl)))
      (pss_one (ps_ret (pe_tup (pa_cons pe_str (pa_cons (pe_call G_law_body (hr.mono (by omega)) (by rfl) T.g_law_body T.kp_law_body T.b_law_body .nil pass0 (pa_cons (pv 0) (pa_cons (pv 1) (pa_cons (pv 6) (pa_cons (pe_op op_sub (pv 3) pe_int) pa_nil))))) (pa_cons (pe_call G_law_body (hr.mono (by omega)) (by rfl) T.g_law_body T.kp_law_body T.b_law_body .nil pass0 (pa_cons (pv 0) (pa_cons (pv 1) (pa_cons (pv 2) (pa_cons (pe_op op_sub (pv 3) pe_int) pa_nil))))) pa_nil))))))) pss_nil)
      (pss_cons (ps_if (pt_cmpR op_eq (pv 2) pe_str (nomark _)) (pss_one (ps_ret (pe_call G_law_leaf (hr.mono (by omega)) (by rfl) T.g_law_leaf T.kp_law_leaf T.b_law_leaf .nil pass0 (pa_cons (pv 0) (pa_cons (pv 1) (pa_cons (pv 2) pa_nil)))))) pss_nil)
      (pss_cons (ps_if (pt_cmpR op_lt (pv 4) pe_int (nomark _)) (pss_one (ps_ret (pe_call G_law_call (hr.mono (by omega)) (by rfl) T.g_law_call T.kp_law_call T.b_law_call .nil pass0 (pa_cons (pv 0) (pa_cons (pv 1) (pa_cons (pv 3) pa_nil)))))) pss_nil)
      (pss_cons (ps_if (pt_cmpR op_eq (pv 4) pe_int (nomark _)) (pss_one (ps_ret (pe_tup (pa_cons pe_str (pa_cons (pe_call G_law_body (hr.mono (by omega)) (by rfl) T.g_law_body T.kp_law_body T.b_law_body .nil pass0 (pa_cons (pv 0) (pa_cons (pv 1) (pa_cons pe_str (pa_cons (pe_op op_sub (pv 3) pe_int) pa_nil))))) pa_nil))))) pss_nil)
      (pss_cons (ps_set (i := 7) sc_law_body.nd rfl (by first | exact Or.inl rfl | exact Or.inr rfl) (pe_ix (r := rIxL K) ix_list (pe_lst (pa_cons pe_str (pa_cons pe_str (pa_cons pe_str pa_nil)))) (pe_call G_law_next (hr.mono (by omega)) (by rfl) T.g_law_next T.kp_law_next T.b_law_next .nil pass0 (pa_cons (pv 0) (pa_cons pe_int pa_nil))) (fun _ _ => rfl)))
      (pss_one (ps_ret (pe_tup (pa_cons (pv 7) (pa_cons (pe_call G_law_body (hr.mono (by omega)) (by rfl) T.g_law_body T.kp_law_body T.b_law_body .nil pass0 (pa_cons (pv 0) (pa_cons (pv 1) (pa_cons pe_str (pa_cons (pe_op op_sub (pv 3) pe_int) pa_nil))))) (pa_cons (pe_call G_law_body (hr.mono (by omega)) (by rfl) T.g_law_body T.kp_law_body T.b_law_body .nil pass0 (pa_cons (pv 0) (pa_cons (pv 1) (pa_cons pe_str (pa_cons (pe_op op_sub (pv 3) pe_int) pa_nil))))) pa_nil)))))))))))))), ?_⟩
  refine ⟨_, rfl, h, c, 10, rfl, dr, by decide, by decide, fun r H2 r0 r1 b2 d2 => ?_⟩
  have x2 := x.but dr b2
  have hz : decide (z < 1) = false := decide_eq_false (by omega)
  have leaf : spWord n 1 (preLeaf n) [.ref h, .ref e, .str k] H2 Q E0 := ⟨h, c, ⟨e, k, rfl, hk, x2⟩, d2, fun v H3 b3 d3 w3 => q v H3 (b2.trans b3) d3 (w3.mono (by omega))⟩
  refine ⟨_, rfl, z, 1, rfl, rfl, _, rfl, ?_⟩
  rw [hz]
  refine iteF ?_
  refine ⟨_, rfl, r, 2, rfl, rfl, _, rfl, ite2 (fun _ => ?_) (fun _ => ?_)⟩
  · exact ⟨_, rfl, _, rfl, _, rfl, leaf⟩
  refine ⟨_, rfl, r, 3, rfl, rfl, _, rfl, ite2 (fun _ => ?_) (fun _ => ?_)⟩
  · refine ⟨_, rfl, _, rfl, _, rfl, z, 1, rfl, rfl, h, c, ⟨e, _, _, rfl, ez1, kindN, x2⟩, d2, fun v1 H3 b3 d3 w1 => ?_⟩
    have x3 := x2.but d2 b3
    refine ⟨_, rfl, _, rfl, _, rfl, _, rfl, _, rfl, z, 1, rfl, rfl, h, c, ⟨e, _, _, rfl, ez1, hk, x3⟩, d3, fun v2 H4 b4 d4 w2 => ?_⟩
    have x4 := x3.but d3 b4
    refine ⟨_, rfl, _, rfl, _, rfl, _, rfl, z, 1, rfl, rfl, h, c, ⟨e, _, _, rfl, ez1, hk, x4⟩, d4, fun v3 H5 b5 d5 w3 => ⟨sml 4, fun t ht => ?_⟩⟩
    have k5 := Keep.same (Same.new (o := .tup [.str "if", v1, v2, v3]) ht)
    have k45 := (Keep.but b5 d4).trans k5
    exact q _ _ (b2.trans (b3.trans (b4.trans (b5.trans (But.new ht))))) (d5.same (Same.new ht)) (wd3 .ife 0 upd_same trivial (w1.keep ((Keep.but b4 d3).trans k45)) (w2.keep k45) (w3.keep k5))
  refine ⟨_, rfl, rfl, _, rfl, ite2 (fun _ => ?_) (fun _ => ?_)⟩
  · refine ⟨sml 2, fun l hl => ?_⟩
    have d2' := d2.same (Same.new (o := .lst [.str "number", .str "way"]) hl)
    have nl := Dr.new d2 hl
    refine ⟨_, rfl, h, c, 2, rfl, d2', by decide, by decide, fun r5 H5 r50 r51 b5 d5 => ?_⟩
    obtain ⟨k5, hk5, e5⟩ := two_kinds r5 r50 r51
    have b25 := (But.new (h := h) (c := c) (o := .lst [.str "number", .str "way"]) hl).trans b5
    have x5 := x2.but d2 b25
    refine ⟨l, _, r5, .str k5, rfl, rfl, SqL.of (b5 _ _ nl.1 nl.2 upd_same), e5, ?_⟩
    refine ⟨_, rfl, _, rfl, _, rfl, _, rfl, z, 1, rfl, rfl, h, c, ⟨e, _, _, rfl, ez1, hk5, x5⟩, d5, fun v1 H6 b6 d6 w1 => ?_⟩
    refine ⟨_, rfl, _, rfl, _, rfl, _, rfl, z, 1, rfl, rfl, h, c, ⟨e, _, _, rfl, ez1, hk, x5.but d5 b6⟩, d6, fun v2 H7 b7 d7 w2 => ⟨sml 3, fun t ht => ?_⟩⟩
    have k7 := Keep.same (Same.new (o := .tup [.str "then", v1, v2]) ht)
    exact q _ _ (b2.trans (b25.trans (b6.trans (b7.trans (But.new ht))))) (d7.same (Same.new ht)) (wd2 .thn 0 upd_same trivial (w1.keep ((Keep.but b7 d6).trans k7)) (w2.keep k7))
  refine ⟨_, rfl, rfl, _, rfl, ite2 (fun _ => ?_) (fun _ => ?_)⟩
  · exact ⟨_, rfl, _, rfl, _, rfl, leaf⟩
  refine ⟨_, rfl, r, 8, rfl, rfl, _, rfl, ite2 (fun _ => ?_) (fun _ => ?_)⟩
  · exact ⟨_, rfl, _, rfl, _, rfl, h, c, ⟨e, z, rfl, ez, x2⟩, d2, fun v H3 b3 d3 w3 => q v H3 (b2.trans b3) d3 (w3.mono (by omega))⟩
  refine ⟨_, rfl, rfl, _, rfl, ite2 (fun _ => ?_) (fun _ => ?_)⟩
  · refine ⟨_, rfl, _, rfl, _, rfl, z, 1, rfl, rfl, h, c, ⟨e, _, _, rfl, ez1, kindN, x2⟩, d2, fun v1 H3 b3 d3 w1 => ⟨sml 2, fun t ht => ?_⟩⟩
    have k7 := Keep.same (Same.new (o := .tup [.str "say", v1]) ht)
    exact q _ _ (b2.trans (b3.trans (But.new ht))) (d3.same (Same.new ht)) (wd1 .say 0 upd_same trivial (w1.keep k7))
  · refine ⟨sml 3, fun l hl => ?_⟩
    have d2' := d2.same (Same.new (o := .lst [.str "plus", .str "less", .str "times"]) hl)
    have nl := Dr.new d2 hl
    refine ⟨_, rfl, h, c, 3, rfl, d2', by decide, by decide, fun r5 H5 r50 r51 b5 d5 => ?_⟩
    obtain ⟨o, ho, hg, hf, e5⟩ := three_words r5 r50 r51
    have b25 := (But.new (h := h) (c := c) (o := .lst [.str "plus", .str "less", .str "times"]) hl).trans b5
    have x5 := x2.but d2 b25
    refine ⟨l, _, r5, .str o.name, rfl, rfl, SqL.of (b5 _ _ nl.1 nl.2 upd_same), e5, ?_⟩
    refine ⟨_, rfl, _, rfl, _, rfl, _, rfl, z, 1, rfl, rfl, h, c, ⟨e, _, _, rfl, ez1, kindN, x5⟩, d5, fun v1 H6 b6 d6 w1 => ?_⟩
    refine ⟨_, rfl, _, rfl, _, rfl, z, 1, rfl, rfl, h, c, ⟨e, _, _, rfl, ez1, kindN, x5.but d5 b6⟩, d6, fun v2 H7 b7 d7 w2 => ⟨sml 3, fun t ht => ?_⟩⟩
    have k7 := Keep.same (Same.new (o := .tup [.str o.name, v1, v2]) ht)
    refine q _ _ (b2.trans (b25.trans (b6.trans (b7.trans (But.new ht))))) (d7.same (Same.new ht)) (wd2 o 0 ?_ (hf _ _) (w1.keep ((Keep.but b7 d6).trans k7)) (w2.keep k7) ho)
    rw [upd_same]
    unfold Op.pre
    rw [hg]
    rfl
theorem ok_law_body (T : Txt w K mg) {n : Nat} : ∀ m : Nat, FnOk P w K mg base CX0 (3 * m + 3) (He.ga K "_law_body") (fdOf K d_law_body) ["_law_h", "_law_e", "_law_kind", "_law_deep"] (spWord n (m + 2) (preBody n m))
  | 0 => ok_law_body0 T
  | m + 1 => ok_law_bodyS T (ok_law_body T m)
end
end K07

namespace K07
open PySem PySem.Spec PyProof.Rows L2 Ov
section
variable {P : Program} {w : World} {K : PySem.W.Frag} {mg : Str → Option Value} {base : Heap}
theorem sc_law_words : FnScope ["_law_body_here", "_law_arm"] ["_law_body_here"] (defScope s_law_words) := ⟨rfl, rfl, rfl, by decide +kernel, rfl, by decide +kernel, by decide +kernel⟩
-- 0 _law_body_here, 1 _law_arm
theorem ok_law_wordsS (T : Txt w K mg) {d : Nat} (G_law_words : FnOk P w K mg base CX0 d (He.ga K "_law_words") (fdOf K d_law_words) ["_law_body_here"] (spWords d)) :
    FnOk P w K mg base CX0 (d + 1) (He.ga K "_law_words") (fdOf K d_law_words) ["_law_body_here"] (spWords (d + 1)) := by
  refine T.F_law_words.ok sc_law_words (fun vs H Q E h => ?_) (fun cdv A outer s H vs Q E hr h => ?_)
  · obtain ⟨v, n, u, rfl, _⟩ := h
    rfl
  obtain ⟨v, n, u, rfl, hv, ok, q⟩ := h
  cases hv with
  | @mk a o g vs as ha hs =>
  cases ok with
  | mk h1 h2 h3 =>
  refine ⟨_, PSs.nox (pss_one (ps_ret (pe_op op_add pe_int (pe_callB (r := rSum K) (cr_sum rfl) (by rfl) T.z_sum (by decide +kernel) (pa_cons (pe_lc (own := [("_law_arm", 1)]) rfl sc_law_words.nd (Ov.pi_tupK (K := K) rfl (pv 0)) (blkOk_by (own := [("_law_arm", 1)]) (N := ["_law_body_here", "_law_arm"]) (sc := defScope s_law_words) (by decide +kernel)) (fun _ _ _ _ _ => (pg_name (i := 1) sc_law_words.nd rfl (by first | exact Or.inl rfl | exact Or.inr rfl))) (fun _ _ _ _ _ => pts_one (pt_val (pe_callB (r := rIsi K) call_isi (by rfl) T.z_isinstance (by decide +kernel) (pa_cons (pv 1) (pa_cons (pe_bltn (v := .ty "tuple") (by rfl) T.z_tuple (by decide +kernel) rfl) pa_nil))))) (fun _ _ _ _ _ => (pe_call G_law_words (hr.mono (by omega)) (by rfl) T.g_law_words T.kp_law_words T.b_law_words .nil pass0 (pa_cons (pv 1) pa_nil)))) pa_nil))))), ?_⟩
  have hlen := hs.length
  have hl40 : as.length ≤ 3 := by rw [h1]; cases o <;> decide
  have hpre : (o.pre g).length ≤ 1 := by
    unfold Op.pre
    split
    · exact Nat.le_refl 1
    · exact Nat.zero_le 1
  have lt {x : V} {i : Nat} (hi : (.str o.name :: (o.pre g ++ vs) : List V)[i]? = some x) : i < 1 + (o.pre g).length → (∃ y, x = .str y) ∨ ∃ y, x = .int y := fun le => by
    cases i with
    | zero => exact .inl ⟨_, (Option.some.inj hi).symm⟩
    | succ j =>
      have hj : (o.pre g ++ vs)[j]? = some x := hi
      rw [List.getElem?_append_left (by omega)] at hj
      unfold Op.pre at hj
      split at hj
      · exact .inr ⟨g, by
          have := List.mem_of_getElem? hj
          simpa using this⟩
      · simp at hj
  have ge {x : V} {i : Nat} (hi : (.str o.name :: (o.pre g ++ vs) : List V)[i]? = some x) : ¬ i < 1 + (o.pre g).length → vs[i - (1 + (o.pre g).length)]? = some x := fun le => by
    obtain ⟨j, rfl⟩ : ∃ j, i = j + 1 := ⟨i - 1, by omega⟩
    have hj : (o.pre g ++ vs)[j]? = some x := hi
    rw [List.getElem?_append_right (by omega)] at hj
    rw [show j + 1 - (1 + (o.pre g).length) = j - (o.pre g).length by omega]
    exact hj
  refine ⟨_, rfl, a, rfl, ⟨_, SqT.of ha⟩, fun D hD => ?_⟩
  refine lc_tup (K := K) (a := a) (xs := .str o.name :: (o.pre g ++ vs)) (fun i H' => Same H H' ∧ H' D = some (.lst (((as.take (i - (1 + (o.pre g).length))).map fun z => (z.size : Int)).map V.int))) ⟨Same.new hD, by rw [upd_same, show 0 - (1 + (o.pre g).length) = 0 by omega]; rfl⟩ (fun i H' _ p => SqT.of (p.1 _ _ ha)) ?_ ?_
  · rintro i x H2 hi ⟨s2, e2⟩
    refine ⟨rfl, ?_⟩
    by_cases hi0 : i < 1 + (o.pre g).length
    · -- the word's name, what is given
      have e1 : i + 1 - (1 + (o.pre g).length) = i - (1 + (o.pre g).length) := by omega
      rcases lt hi hi0 with ⟨y, rfl⟩ | ⟨y, rfl⟩
      · refine ⟨_, rfl, _, .ty "tuple", .type "str", .type "tuple", false, rfl, .ty _, .base (.str y), k_str_tuple, false, rfl, iteF ⟨s2, ?_⟩⟩
        rw [e1]
        exact e2
      · refine ⟨_, rfl, _, .ty "tuple", .type "int", .type "tuple", false, rfl, .ty _, .base (.int y), k_int_tuple, false, rfl, iteF ⟨s2, ?_⟩⟩
        rw [e1]
        exact e2
    · have hx := ge hi hi0
      obtain ⟨u, hu, hxu⟩ := WsAt.get hs hx
      have hk := h3 u (List.mem_of_getElem? hu)
      have hxu2 := hxu.keep (Keep.same s2)
      obtain ⟨b, xs, rfl, hb⟩ := hxu2.ref
      refine ⟨_, rfl, _, .ty "tuple", .type "tuple", .type "tuple", true, rfl, .ty _, .base (.tup hb), k_tuple_tuple, true, rfl, ?_⟩
      refine ⟨_, rfl, _, n, u, rfl, hxu2, hk, fun H3 s3 => ⟨_, s3 _ _ e2, sm _ (by simp only [List.length_map, List.length_take]; omega), Ov.Same.updn (s2.trans s3) hD, ?_⟩⟩
      rw [upd_same, show i + 1 - (1 + (o.pre g).length) = i - (1 + (o.pre g).length) + 1 by omega, List.take_add_one, hu, List.map_append, List.map_append]
      rfl
  · rintro H2 ⟨s2, e2⟩
    have el : (.str o.name :: (o.pre g ++ vs) : List V).length - (1 + (o.pre g).length) = as.length := by
      rw [List.length_cons, List.length_append, hlen]
      omega
    rw [el, List.take_length] at e2
    refine ⟨D, _, rfl, SqL.of e2, 1, _, rfl, rfl, ?_⟩
    have z : (1 : Int) + ((as.map fun z => (z.size : Int))).sum = ((W.mk o g as).size : Int) := by
      have e := W.sizes_sum as
      rw [W.size_mk]
      omega
    show Q (.int (1 + ((as.map fun z => (z.size : Int))).sum)) H2
    rw [z]
    exact q H2 s2
theorem ok_law_words (T : Txt w K mg) : ∀ d : Nat, FnOk P w K mg base CX0 d (He.ga K "_law_words") (fdOf K d_law_words) ["_law_body_here"] (spWords d)
  | 0 => fn0 fun vs H Q E ⟨_, _, _, _, _, h, _⟩ => nomatch h
  | d + 1 => ok_law_wordsS T (ok_law_words T d)
end
end K07

namespace K07
open PySem PySem.Spec PyProof.Rows L2 Ov
section
variable {P : Program} {w : World} {K : PySem.W.Frag} {mg : Str → Option Value} {base : Heap}
theorem sc_law_program : FnScope ["_law_h", "_law_most", "_law_kinds", "_law_plain", "_law_found", "_law_came", "_law_e", "_law_body_here", "_law_k"] ["_law_h", "_law_most"] (defScope s_law_program) := ⟨rfl, rfl, rfl, by decide +kernel, rfl, by decide +kernel, by decide +kernel⟩
-- 0 _law_h, 1 _law_most, 2 _law_kinds, 3 _law_plain, 4 _law_found, 5 _law_came, 6 _law_e, 7 _law_body_here, 8 _law_k
theorem ok_law_program (T : Txt w K mg) : FnOk P w K mg base CX0 16 (He.ga K "_law_program") (fdOf K d_law_program) ["_law_h", "_law_most"] spProgram := by
  have G_law_next := ok_law_next (P := P) (base := base) T
  have G_law_leaf : FnOk P w K mg base CX0 2 (He.ga K "_law_leaf") (fdOf K d_law_leaf) ["_law_h", "_law_e", "_law_kind"] spLeaves := fn_ex (k := fun _ => 2) (fun n => ok_law_leaf T) fun _ => Nat.le_refl _
  have G_law_body : FnOk P w K mg base CX0 15 (He.ga K "_law_body") (fdOf K d_law_body) ["_law_h", "_law_e", "_law_kind", "_law_deep"] spBodies := fn_ex (k := fun i : Nat × _root_.Fin 5 => 3 * i.2.val + 3) (fun i => ok_law_body T i.2.val) fun i => by have := i.2.isLt; omega
  have G_law_words := ok_law_words (P := P) (base := base) T 7
  refine T.F_law_program.ok sc_law_program (fun vs H Q E h => ?_) (fun cdv A outer s H vs Q E hr h => ?_)
  · obtain ⟨h, c, m, rfl, _⟩ := h
    rfl
  obtain ⟨h, c, m, rfl, dr, m1, m8, q⟩ := h
  refine ⟨_, PSs.nox (Evl.pss_cut (ps_set (i := 2) sc_law_program.nd rfl (by first | exact Or.inl rfl | exact Or.inr rfl) (pe_op op_cat (pe_lst (pa_cons pe_str pa_nil)) (pe_lc (own := [("_law_k", 8)]) rfl sc_law_program.nd (pi_range1 (by rfl) T.z_range (pa_cons (pe_call G_law_next (hr.mono (by omega)) (by rfl) T.g_law_next T.kp_law_next T.b_law_next .nil pass0 (pa_cons (pv 0) (pa_cons (pv 1) pa_nil))) pa_nil)) (blkOk_by (own := [("_law_k", 8)]) (N := ["_law_h", "_law_most", "_law_kinds", "_law_plain", "_law_found", "_law_came", "_law_e", "_law_body_here", "_law_k"]) (sc := defScope s_law_program) (by decide +kernel)) (fun _ _ _ _ _ => (pg_name (i := 8) sc_law_program.nd rfl (by first | exact Or.inl rfl | exact Or.inr rfl))) (fun _ _ _ _ _ => pts_nil) (fun _ _ _ _ _ => (pe_ix (r := rIxL K) ix_list (pe_lst (pa_cons pe_str (pa_cons pe_str (pa_cons pe_str pa_nil)))) (pe_call G_law_next (hr.mono (by omega)) (by rfl) T.g_law_next T.kp_law_next T.b_law_next .nil pass0 (pa_cons (pv 0) (pa_cons pe_int pa_nil))) (fun _ _ => rfl))))))
      (Evl.pss_cut (ps_setLc (i := 3) (own := [("_law_k", 8)]) rfl sc_law_program.nd rfl rfl (sw_true rfl rfl rfl (by decide +kernel)) (pi_range1 (by rfl) T.z_range (pa_cons (pe_callB (r := Evl.rLenS K) call_len_seq (by rfl) T.z_len PySem.boot_len (pa_cons (pv 2) pa_nil)) pa_nil)) (blkOk_by (own := [("_law_k", 8)]) (N := ["_law_h", "_law_most", "_law_kinds", "_law_plain", "_law_found", "_law_came", "_law_e", "_law_body_here", "_law_k"]) (sc := defScope s_law_program) (by decide +kernel)) (fun _ _ _ _ _ => (pg_name (i := 8) sc_law_program.nd rfl (by first | exact Or.inl rfl | exact Or.inr rfl))) (fun _ _ _ _ _ => (pts_one (pt_cmpR op_eq (pe_ix (r := rIxL K) ix_list (pv 2) (pv 8) (fun _ _ => rfl)) pe_str (nomark _)))) (fun _ _ _ _ _ => (pv 8)))
      (pss_cons (ps_set (i := 4) sc_law_program.nd rfl (by first | exact Or.inl rfl | exact Or.inr rfl) (pe_lst pa_nil))
      (pss_cons (ps_for PassesOwn.never rfl (Ov.pi_listK (K := K) rfl (pv 2)) (pg_name (i := 5) sc_law_program.nd rfl (by first | exact Or.inl rfl | exact Or.inr rfl)) (pss_cons (ps_set (i := 6) sc_law_program.nd rfl (by first | exact Or.inl rfl | exact Or.inr rfl) (pe_disp (pps_cons pe_str (pv 5) (pps_cons pe_str (pv 3) (pps_cons pe_str (pv 2) pps_nil))) (by rfl) (by rfl) (fun z => by cases z) (by decide)))
      (pss_cons (ps_set (i := 7) sc_law_program.nd rfl (by first | exact Or.inl rfl | exact Or.inr rfl) (pe_call G_law_body (hr.mono (by omega)) (by rfl) T.g_law_body T.kp_law_body T.b_law_body .nil pass0 (pa_cons (pv 0) (pa_cons (pv 6) (pa_cons (pe_ix (r := rIxL K) ix_list (pe_lst (pa_cons pe_str (pa_cons pe_str (pa_cons pe_str (pa_cons pe_str pa_nil))))) (pe_call G_law_next (hr.mono (by omega)) (by rfl) T.g_law_next T.kp_law_next T.b_law_next .nil pass0 (pa_cons (pv 0) (pa_cons pe_int pa_nil))) (fun _ _ => rfl)) (pa_cons (pe_op op_add pe_int (pe_call G_law_next (hr.mono (by omega)) (by rfl) T.g_law_next T.kp_law_next T.b_law_next .nil pass0 (pa_cons (pv 0) (pa_cons pe_int pa_nil)))) pa_nil))))))
      (Evl.pss_cut (ps_if (PW.pt (pw_and (pt_cmpR op_eq (pv 5) pe_str (nomark _)) (pw_and1 (pt_cmpR op_gt (pe_call G_law_next (hr.mono (by omega)) (by rfl) T.g_law_next T.kp_law_next T.b_law_next .nil pass0 (pa_cons (pv 0) (pa_cons pe_int pa_nil))) pe_int (nomark _))))) (pss_one (ps_set (i := 7) sc_law_program.nd rfl (by first | exact Or.inl rfl | exact Or.inr rfl) (pe_tup (pa_cons pe_str (pa_cons (pe_tup (pa_cons pe_str pa_nil)) (pa_cons (pv 7) (pa_cons (pe_call G_law_leaf (hr.mono (by omega)) (by rfl) T.g_law_leaf T.kp_law_leaf T.b_law_leaf .nil pass0 (pa_cons (pv 0) (pa_cons (pv 6) (pa_cons pe_str pa_nil)))) pa_nil))))))) pss_nil)
      (Evl.pss_cut (ps_if (pt_cmpR op_gt (pe_call G_law_words (hr.mono (by omega)) (by rfl) T.g_law_words T.kp_law_words T.b_law_words .nil pass0 (pa_cons (pv 7) pa_nil)) pe_int (nomark _)) (pss_one (ps_set (i := 7) sc_law_program.nd rfl (by first | exact Or.inl rfl | exact Or.inr rfl) (pe_call G_law_leaf (hr.mono (by omega)) (by rfl) T.g_law_leaf T.kp_law_leaf T.b_law_leaf .nil pass0 (pa_cons (pv 0) (pa_cons (pv 6) (pa_cons pe_str pa_nil)))))) pss_nil)
      (pss_one (ps_expr (Ov.pe_bmK (K := K) rfl PySem.F.plainAttrs_list PySem.F.slot_list_append PySem.F.type_list_append mt_append (pv 4) (pa_cons (pe_tup (pa_cons (pe_op op_add pe_int (pe_call G_law_next (hr.mono (by omega)) (by rfl) T.g_law_next T.kp_law_next T.b_law_next .nil pass0 (pa_cons (pv 0) (pa_cons (pe_ix (r := rIxL K) ix_list (pe_lst (pa_cons pe_int (pa_cons pe_int pa_nil))) (pe_call G_law_next (hr.mono (by omega)) (by rfl) T.g_law_next T.kp_law_next T.b_law_next .nil pass0 (pa_cons (pv 0) (pa_cons pe_int pa_nil))) (fun _ _ => rfl)) pa_nil)))) (pa_cons (pv 7) pa_nil))) pa_nil)))))))))
      (pss_one (ps_ret (pe_callTy (r := Ov.rTupS K) call_tuple_of (by rfl) T.z_tuple (by decide +kernel) (pa_cons (pv 4) pa_nil)))))))), ?_⟩
  -- the kinds
  refine ⟨fun σ' H' => ∃ (kl : Addr) (ks : List Str), σ' = [some (.ref h), some (.int m), some (.ref kl), none, none, none, none, none, none] ∧ But h c H H' ∧ Dr H' h c ∧ H' kl = some (.lst ((("number" :: ks : List Str)).map V.str)) ∧ ks.length ≤ 7 ∧ (∀ k ∈ ks, KindS k) ∧ kl ≠ h ∧ kl ≠ c, ?_, ?_⟩
  · refine ⟨sml 1, fun l0 hl0 => ?_⟩
    have n0 := Dr.new dr hl0
    refine ⟨_, rfl, _, rfl, h, c, m, rfl, dr.same (Same.new hl0), by omega, by omega, fun r H1 r0 r1 b1 d1 => ⟨r, rfl, by omega, by omega, fun D hD => ?_⟩⟩
    have nD := Dr.new d1 hD
    have h1 := b1 _ _ n0.1 n0.2 upd_same
    refine lc_rangeY (lo := 0) (n := r.toNat) (fun i H' => ∃ ks : List Str, But h c H1 H' ∧ Dr H' h c ∧ H' D = some (.lst (ks.map V.str)) ∧ ks.length = i ∧ ∀ k ∈ ks, KindS k) ⟨[], But.new hD, d1.same (Same.new hD), upd_same, rfl, (fun _ h => nomatch h)⟩ ?_ ?_
    · rintro i H2 hi ⟨ks, b2, d2, e2, hl, hk⟩
      refine ⟨rfl, sml 3, fun l hl3 => ?_⟩
      have nl := Dr.new d2 hl3
      refine ⟨_, rfl, h, c, 3, rfl, d2.same (Same.new hl3), by decide, by decide, fun r3 H3 r30 r31 b3 d3 => ?_⟩
      obtain ⟨k3, hk3, e3⟩ := three_kinds r3 r30 r31
      have b23 := (But.new (h := h) (c := c) (o := .lst [.str "number", .str "number", .str "way"]) hl3).trans b3
      have eD := b23 _ _ nD.1 nD.2 e2
      refine ⟨l, _, r3, .str k3, rfl, rfl, SqL.of (b3 _ _ nl.1 nl.2 upd_same), e3, _, eD, sm _ (by rw [List.length_map]; omega), ks ++ [k3], (b2.trans b23).updn hD, d3.upd nD.1 nD.2, ?_, by rw [List.length_append, hl]; rfl, fun k hk4 => ?_⟩
      · rw [upd_same, List.map_append]; rfl
      · rcases List.mem_append.mp hk4 with z | z
        · exact hk k z
        · rw [List.mem_singleton.mp z]; exact hk3
    · rintro H2 ⟨ks, b2, d2, e2, hl, hk⟩
      have h2 := b2 _ _ n0.1 n0.2 h1
      refine ⟨l0, D, _, _, rfl, rfl, h2, e2, sml _ (by rw [List.length_map, List.length_singleton]; omega), fun p hp => ?_⟩
      have np := Dr.new d2 hp
      exact ⟨p, ks, rfl, (But.new hl0).trans (b1.trans (b2.trans (But.new hp))), d2.same (Same.new hp), upd_same, by omega, hk, np.1, np.2⟩
  rintro σ1 H1 ⟨kl, ks, rfl, b1, d1, hkl, hk7, hks, nkh, nkc⟩
  -- the plain ones
  refine ⟨fun σ' H' => ∃ (pl : Addr) (ps : List Int), σ' = [some (.ref h), some (.int m), some (.ref kl), some (.ref pl), none, none, none, none, none] ∧ Same H1 H' ∧ H' pl = some (.lst (ps.map V.int)) ∧ ps ≠ [] ∧ ps.length ≤ 8 ∧ (∀ z ∈ ps, 0 ≤ z ∧ z < ((ks.length + 1 : Nat) : Int)) ∧ pl ≠ h ∧ pl ≠ c, ?_, ?_⟩
  · refine ⟨_, rfl, kl, _, rfl, .inl (SqL.of hkl), _, rfl, by omega, by rw [List.length_map, List.length_cons]; omega, fun D hD => ?_⟩
    have nD := Dr.new d1 hD
    refine lc_range (lo := 0) (fun i H' => ∃ ps : List Int, Same H1 H' ∧ H' D = some (.lst (ps.map V.int)) ∧ ps.length ≤ i ∧ (∀ z ∈ ps, 0 ≤ z ∧ z < ((ks.length + 1 : Nat) : Int)) ∧ (0 < i → ps ≠ [])) ⟨[], Same.new hD, upd_same, Nat.le_refl _, (fun _ h => nomatch h), fun h => absurd h (Nat.lt_irrefl _)⟩ ?_ ?_
    · rintro i H2 hi ⟨ps, s2, e2, hl, hp, hne⟩
      have hi2 : i < ks.length + 1 := by simp only [List.length_map, List.length_cons] at hi; omega
      refine ⟨rfl, _, rfl, _, rfl, kl, _, _, .str ((("number" :: ks : List Str))[i]'(by rw [List.length_cons]; exact hi2)), rfl, rfl, SqL.of (s2 _ _ hkl), ?_, rfl, _, rfl, ite2 (fun a => ?_) (fun a => ?_)⟩
      · rw [Int.zero_add]
        exact atI_nat (by rw [List.getElem?_map, List.getElem?_eq_getElem (by rw [List.length_cons]; exact hi2)]; rfl)
      · refine ⟨_, rfl, _, e2, sm _ (by rw [List.length_map]; omega), ps ++ [(0 + (i : Int))], Ov.Same.updn s2 hD, ?_, by rw [List.length_append]; exact Nat.succ_le_succ hl, fun z hz => ?_, fun _ z => by simp at z⟩
        · rw [upd_same, List.map_append]; rfl
        · rcases List.mem_append.mp hz with y | y
          · exact hp z y
          · rw [List.mem_singleton.mp y]; omega
      · refine ⟨ps, s2, e2, by omega, hp, fun _ => ?_⟩
        cases i with
        | zero => exact absurd (decide_eq_true rfl) a
        | succ j => exact hne (Nat.succ_pos j)
    · rintro H2 ⟨ps, s2, e2, hl, hp, hne⟩
      exact ⟨D, ps, rfl, s2, e2, hne (by simp only [List.length_map, List.length_cons]; omega), by simp only [List.length_map, List.length_cons] at hl; omega, hp, nD.1, nD.2⟩
  rintro σ2 H2 ⟨pl, ps, rfl, s2, hpl, hp0, hp8, hps, nph, npc⟩
  have d2 := d1.same s2
  have hkl2 := s2 _ _ hkl
  have b2 := b1.trans (But.same s2)
  refine ⟨sml 0, fun fl hfl => ?_⟩
  have nf := Dr.new d2 hfl
  have s3 := Same.new (o := .lst []) hfl
  refine ⟨_, rfl, kl, rfl, ⟨_, SqL.of (s3 _ _ hkl2)⟩, for_list (K := K) (a := kl) (xs := (("number" :: ks : List Str)).map V.str) (fun i σ H' => ∃ (y5 y6 y7 : Option V) (vs : List V) (p : List (Int × W)), σ = [some (.ref h), some (.int m), some (.ref kl), some (.ref pl), some (.ref fl), y5, y6, y7, none] ∧ But h c H2 H' ∧ Dr H' h c ∧ H' fl = some (.lst vs) ∧ Paired (FAt H') vs p ∧ p.length = i ∧ ∀ f ∈ p, FOk (ks.length + 1) f)
    ⟨none, none, none, [], [], rfl, But.same s3, d2.same s3, upd_same, .nil, rfl, (fun _ h => nomatch h)⟩ (fun i σ H' _ ⟨_, _, _, _, _, _, b, _⟩ => SqL.of (b _ _ nkh nkc hkl2)) ?_ ?_⟩
  · rintro i x σ H3 hi ⟨y5, y6, y7, vs, p, rfl, b3, d3, hf, hvs, hlen, hok⟩
    obtain ⟨came, hcm, rfl⟩ : ∃ came, KindS came ∧ x = V.str came := by
      rw [List.getElem?_map] at hi
      cases e : (("number" :: ks : List Str))[i]? with
      | none => rw [e] at hi; cases hi
      | some u =>
        rw [e] at hi
        refine ⟨u, ?_, (Option.some.inj hi).symm⟩
        rcases List.mem_cons.mp (List.mem_of_getElem? e) with z | z
        · rw [z]; exact kindN
        · exact hks u z
    have hi8 : i < ks.length + 1 := by
      have z := (List.getElem?_eq_some_iff.mp hi).1
      rw [List.length_map, List.length_cons] at z
      exact z
    -- what the body is drawn by
    refine fun e he => ⟨_, rfl, _, rfl, _, rfl, upd_same, [(.inr "came", .str came), (.inr "plain", .ref pl), (.inr "kinds", .ref kl)], rfl, (by show 3 ≤ 15; decide), ?_⟩
    have s4 : Same H3 (upd (upd H3 e (.dK [])) e (.dK (mergeK [] [(.inr "came", .str came), (.inr "plain", .ref pl), (.inr "kinds", .ref kl)]))) := by
      rw [upd_upd]
      exact Same.new he
    generalize hH4 : upd (upd H3 e (.dK [])) e (.dK (mergeK [] [(.inr "came", .str came), (.inr "plain", .ref pl), (.inr "kinds", .ref kl)])) = H4 at s4
    have d4 := d3.same s4
    have x4 : preE (ks.length + 1) h c e H4 := ⟨came, pl, kl, ps, "number" :: ks, {
      e := by rw [← hH4]; exact upd_same
      ck := hcm
      p := s4 _ _ (b3 _ _ nph npc hpl)
      p0 := hp0
      p8 := hp8
      pn := hps
      k := s4 _ _ (b3 _ _ nkh nkc hkl2)
      kn := rfl
      n1 := by omega
      n8 := by omega
      kk := fun y hy => by
        rcases List.mem_cons.mp hy with z | z
        · rw [z]; exact kindN
        · exact hks y z
      ph := nph
      pc := npc
      kh := nkh
      kc := nkc }⟩
    have hf4 := s4 _ _ hf
    -- the body
    refine ⟨_, rfl, _, rfl, sml 4, fun l hl => ⟨_, rfl, h, c, 4, rfl, d4.same (Same.new hl), by decide, by decide, fun r5 H5 r50 r51 b5 d5 => ?_⟩⟩
    have nl := Dr.new d4 hl
    obtain ⟨k5, hk5, e5⟩ := four_kinds r5 r50 r51
    have b45 := (But.new (h := h) (c := c) (o := .lst [.str "number", .str "number", .str "number", .str "way"]) hl).trans b5
    refine ⟨l, _, r5, .str k5, rfl, rfl, SqL.of (b5 _ _ nl.1 nl.2 upd_same), e5, ?_⟩
    refine ⟨_, rfl, h, c, 3, rfl, d5, by decide, by decide, fun r6 H6 r60 r61 b6 d6 => ⟨2, r6, rfl, rfl, ?_⟩⟩
    have b46 := b45.trans b6
    refine ⟨(ks.length + 1, ⟨(2 + r6).toNat, by omega⟩), h, c, ⟨e, k5, 2 + r6, rfl, by show 2 + r6 = (((2 + r6).toNat : Nat) : Int); omega, hk5, x4.but d4 b46⟩, d6, fun v7 H7 b7 d7 w7 => ?_⟩
    have b47 := b46.trans b7
    have x7 := x4.but d4 b47
    have w7' : Wd H7 (ks.length + 1) 6 v7 := w7.mono (by show (2 + r6).toNat + 2 ≤ 6; omega)
    have hf7 : H7 fl = some (.lst vs) := b47 _ _ nf.1 nf.2 hf4
    -- if came is a number: an if around it
    refine ⟨fun σ' H' => ∃ v, σ' = [some (.ref h), some (.int m), some (.ref kl), some (.ref pl), some (.ref fl), some (.str came), some (.ref e), some v, none] ∧ But h c H7 H' ∧ Dr H' h c ∧ Wd H' (ks.length + 1) 7 v, ?_, ?_⟩
    · refine ⟨_, rfl, rfl, _, rfl, ite2 (fun _ => ?_) (fun _ => ?_)⟩
      · refine ⟨_, rfl, h, c, 4, rfl, d7, by decide, by decide, fun r8 H8 r80 r81 b8 d8 => ⟨r8, 0, rfl, rfl, _, rfl, ite2 (fun _ => ?_) (fun _ => ?_)⟩⟩
        · refine ⟨sml 1, fun t1 h1 => ⟨_, rfl, _, rfl, _, rfl, ks.length + 1, h, c, ⟨e, _, rfl, kindN, (x7.but d7 b8).but d8 (But.new h1)⟩, d8.same (Same.new h1), fun v9 H9 b9 d9 w9 => ⟨sml 4, fun t ht => ?_⟩⟩⟩
          have n1 := Dr.new d8 h1
          have b89 := (But.new (h := h) (c := c) (o := .tup [.str "argument"]) h1).trans b9
          have k9 := Keep.same (Same.new (o := .tup [.str "if", .ref t1, v7, v9]) ht)
          refine ⟨_, rfl, b8.trans (b89.trans (But.new ht)), d9.same (Same.new ht), wd3 .ife 0 upd_same trivial (Wd.mono (wd0 (d := 0) .arg 0 (k9 _ _ (b9 _ _ n1.1 n1.2 upd_same)) trivial) (by omega)) (w7'.keep ((Keep.but b8 d7).trans ((Keep.but b89 d8).trans k9))) ((w9.mono (by omega)).keep k9)⟩
        · exact ⟨v7, rfl, b8, d8, (w7'.keep (Keep.but b8 d7)).mono (by omega)⟩
      · exact ⟨v7, rfl, But.refl _, d7, w7'.mono (by omega)⟩
    rintro σ8 H8 ⟨v8, rfl, b8, d8, w8⟩
    have b48 := b47.trans b8
    have x8 := x4.but d4 b48
    -- if it is too long: a leaf
    refine ⟨fun σ' H' => ∃ v u, σ' = [some (.ref h), some (.int m), some (.ref kl), some (.ref pl), some (.ref fl), some (.str came), some (.ref e), some v, none] ∧ But h c H8 H' ∧ Dr H' h c ∧ WAt H' v u ∧ WOk (ks.length + 1) 7 u ∧ u.size ≤ 40, ?_, ?_⟩
    · obtain ⟨u8, hu8, ok8⟩ := w8
      refine ⟨_, rfl, v8, _, u8, rfl, hu8, ok8, fun H9 s9 => ⟨_, 40, rfl, rfl, _, rfl, ite2 (fun _ => ?_) (fun a => ?_)⟩⟩
      · refine ⟨_, rfl, _, rfl, ks.length + 1, h, c, ⟨e, _, rfl, kindN, x8.but d8 (But.same s9)⟩, d8.same s9, fun v9 H10 b10 d10 ⟨u9, w9, ok9⟩ => ?_⟩
        exact ⟨v9, u9, rfl, (But.same s9).trans b10, d10, w9, ok9.mono (by omega), by rw [wok1_size ok9]; omega⟩
      · have a2 : ¬ (40 : Int) < (u8.size : Int) := of_decide_eq_false (Bool.eq_false_iff.mpr a)
        exact ⟨v8, u8, rfl, But.same s9, d8.same s9, hu8.keep (Keep.same s9), ok8, by omega⟩
    rintro σ9 H9 ⟨v9, u9, rfl, b9, d9, w9, ok9, z9⟩
    have hf9 : H9 fl = some (.lst vs) := (b8.trans b9) _ _ nf.1 nf.2 hf7
    have b49 := b48.trans b9
    have k39 : Keep H3 H9 := (Keep.same s4).trans (Keep.but b49 d4)
    -- found.append
    refine ⟨_, rfl, .inl ⟨rfl, _, SqL.of hf9⟩, _, rfl, sml 2, fun l2 hl2 => ?_⟩
    have n2 := Dr.new d9 hl2
    refine ⟨_, rfl, h, c, 2, rfl, d9.same (Same.new hl2), by decide, by decide, fun r10 H10 r100 r101 b10 d10 => ?_⟩
    obtain ⟨z10, z1, z8, e10⟩ := two_sizes r10 r100 r101
    refine ⟨l2, _, r10, .int z10, rfl, rfl, SqL.of (b10 _ _ n2.1 n2.2 upd_same), e10, ?_⟩
    refine ⟨h, c, z10, rfl, d10, by omega, by omega, fun r11 H11 r110 r111 b11 d11 => ⟨1, r11, rfl, rfl, _, rfl, sml 2, fun t ht => ?_⟩⟩
    have b9b := (But.new (h := h) (c := c) (o := .lst [.int 2, .int 8]) hl2).trans (b10.trans b11)
    have ntf : fl ≠ t := ne_of_none (b9b _ _ nf.1 nf.2 hf9) ht
    have hf12 : upd H11 t (.tup [.int (1 + r11), v9]) fl = some (.lst vs) := by rw [upd_ne ntf]; exact b9b _ _ nf.1 nf.2 hf9
    have k12 : Keep H9 (upd H11 t (.tup [.int (1 + r11), v9])) := (Keep.but b9b d9).trans (Keep.same (Same.new ht))
    have kL := Keep.updL (ys := vs ++ [V.ref t]) hf12
    have hvlen := hvs.length
    refine ⟨fl, vs, _, rfl, rfl, hf12, sm _ (by omega), _, _, _, vs ++ [V.ref t], p ++ [(1 + r11, u9)], rfl, ?_, ?_, upd_same, ?_, ?_, ?_⟩
    · exact (b3.trans ((But.same s4).trans (b49.trans (b9b.trans (But.new ht))))).updn hfl
    · exact (d11.same (Same.new ht)).upd nf.1 nf.2
    · exact (L2.Paired.mapP hvs fun _ _ z => z.keep (k39.trans (k12.trans kL))).snoc ⟨t, v9, rfl, kL _ _ upd_same, w9.keep (k12.trans kL)⟩
    · rw [List.length_append, hlen]; rfl
    · intro f hf2
      rcases List.mem_append.mp hf2 with z | z
      · exact hok f z
      · rw [List.mem_singleton.mp z]
        exact ⟨by show 1 ≤ 1 + r11; omega, by show 1 + r11 ≤ 8; omega, ok9, z9⟩
  · rintro σ H3 ⟨y5, y6, y7, vs, p, rfl, b3, d3, hf, hvs, hlen, hok⟩
    rw [List.length_map, List.length_cons] at hlen
    refine ⟨_, rfl, fl, vs, rfl, .inl ⟨SqL.of hf, fun t ht => ?_⟩⟩
    have kt := Keep.same (Same.new (o := .tup vs) ht)
    refine q _ _ p (b2.trans (b3.trans (But.new ht))) (d3.same (Same.new ht)) ⟨t, vs, rfl, upd_same, L2.Paired.mapP hvs fun _ _ z => z.keep kt⟩ ⟨by omega, by omega, fun f hf2 => ?_⟩
    rw [hlen]
    exact hok f hf2
end
end K07

namespace K07
open PySem PySem.Spec PyProof.Rows L2 Ov
section
variable {P : Program} {w : World} {K : PySem.W.Frag} {mg : Str → Option Value} {base : Heap}
theorem sc_law_tree : FnScope ["_law_h", "_law_program_here", "_law_parts", "_law_function", "_law_k", "_law_left", "_law_order", "_law_stands", "_law_part"] ["_law_h", "_law_program_here"] (defScope s_law_tree) := ⟨rfl, rfl, rfl, by decide +kernel, rfl, by decide +kernel, by decide +kernel⟩
-- 0 _law_h, 1 _law_program_here, 2 _law_parts, 3 _law_function, 4 _law_k, 5 _law_left, 6 _law_order, 7 _law_stands, 8 _law_part
theorem ok_law_tree (T : Txt w K mg) : FnOk P w K mg base CX0 2 (He.ga K "_law_tree") (fdOf K d_law_tree) ["_law_h", "_law_program_here"] spTree := by
  have G_law_next := ok_law_next (P := P) (base := base) T
  refine T.F_law_tree.ok sc_law_tree (fun vs H Q E h => ?_) (fun cdv A outer s H vs Q E hr h => ?_)
  · obtain ⟨h, c, a, n, vp, rfl, _⟩ := h
    rfl
  obtain ⟨h, c, a, n, vp, rfl, dr, hp, hvp, n1, n8, q⟩ := h
  refine ⟨_, PSs.nox (pss_cons (ps_set (i := 2) sc_law_tree.nd rfl (by first | exact Or.inl rfl | exact Or.inr rfl) (pe_lst pa_nil))
      (Evl.pss_cut (ps_for PassesOwn.never rfl (pi_range1 (by rfl) T.z_range (pa_cons (pe_callB (r := Evl.rLenS K) call_len_seq (by rfl) T.z_len PySem.boot_len (pa_cons (pv 1) pa_nil)) pa_nil)) (pg_name (i := 3) sc_law_tree.nd rfl (by first | exact Or.inl rfl | exact Or.inr rfl)) (pss_cons (ps_set (i := 4) sc_law_tree.nd rfl (by first | exact Or.inl rfl | exact Or.inr rfl) (pe_call G_law_next (hr.mono (by omega)) (by rfl) T.g_law_next T.kp_law_next T.b_law_next .nil pass0 (pa_cons (pv 0) (pa_cons (pe_op op_add (pe_op op_add (pe_callB (r := Evl.rLenS K) call_len_seq (by rfl) T.z_len PySem.boot_len (pa_cons (pv 2) pa_nil)) pe_int) (pe_call G_law_next (hr.mono (by omega)) (by rfl) T.g_law_next T.kp_law_next T.b_law_next .nil pass0 (pa_cons (pv 0) (pa_cons pe_int pa_nil)))) pa_nil))))
      (Evl.pss_cut (ps_if (pt_cmpR op_ge (pv 4) (pe_callB (r := Evl.rLenS K) call_len_seq (by rfl) T.z_len PySem.boot_len (pa_cons (pv 2) pa_nil)) (nomark _)) (pss_cons (ps_expr (Ov.pe_bmK (K := K) rfl PySem.F.plainAttrs_list PySem.F.slot_list_append PySem.F.type_list_append mt_append (pv 2) (pa_cons (pe_lst pa_nil) pa_nil)))
      (pss_one (ps_set (i := 4) sc_law_tree.nd rfl (by first | exact Or.inl rfl | exact Or.inr rfl) (pe_op op_sub (pe_callB (r := Evl.rLenS K) call_len_seq (by rfl) T.z_len PySem.boot_len (pa_cons (pv 2) pa_nil)) pe_int)))) pss_nil)
      (pss_one (ps_expr (Ov.pe_bmK (K := K) rfl PySem.F.plainAttrs_list PySem.F.slot_list_append PySem.F.type_list_append mt_append (pe_ix (r := rIxL K) ix_list (pv 2) (pv 4) (fun _ _ => rfl)) (pa_cons (pv 3) pa_nil)))))))
      (pss_cons (ps_set (i := 5) sc_law_tree.nd rfl (by first | exact Or.inl rfl | exact Or.inr rfl) (pe_listRg rfl (by rfl) T.z_list (prg_1 (by rfl) T.z_range (pe_callB (r := Evl.rLenS K) call_len_seq (by rfl) T.z_len PySem.boot_len (pa_cons (pv 2) pa_nil)))))
      (pss_cons (ps_setLc (i := 6) (own := [("_law_k", 4)]) rfl sc_law_tree.nd rfl rfl (sw_true rfl rfl rfl (by decide +kernel)) (pi_range1 (by rfl) T.z_range (pa_cons (pe_callB (r := Evl.rLenS K) call_len_seq (by rfl) T.z_len PySem.boot_len (pa_cons (pv 2) pa_nil)) pa_nil)) (blkOk_by (own := [("_law_k", 4)]) (N := ["_law_h", "_law_program_here", "_law_parts", "_law_function", "_law_k", "_law_left", "_law_order", "_law_stands", "_law_part"]) (sc := defScope s_law_tree) (by decide +kernel)) (fun _ _ _ _ _ => (pg_name (i := 4) sc_law_tree.nd rfl (by first | exact Or.inl rfl | exact Or.inr rfl))) (fun _ _ _ _ _ => pts_nil) (fun _ _ _ _ _ => (Ov.pe_bmK (K := K) rfl PySem.F.plainAttrs_list PySem.F.slot_list_pop PySem.F.type_list_pop mt_popAt (pv 5) (pa_cons (pe_call G_law_next (hr.mono (by omega)) (by rfl) T.g_law_next T.kp_law_next T.b_law_next .nil pass0 (pa_cons (pv 0) (pa_cons (pe_callB (r := Evl.rLenS K) call_len_seq (by rfl) T.z_len PySem.boot_len (pa_cons (pv 5) pa_nil)) pa_nil))) pa_nil))))
      (pss_cons (ps_set (i := 7) sc_law_tree.nd rfl (by first | exact Or.inl rfl | exact Or.inr rfl) (pe_op op_rep (pe_lst (pa_cons (pe_un un_neg pe_int) pa_nil)) (pe_callB (r := Evl.rLenS K) call_len_seq (by rfl) T.z_len PySem.boot_len (pa_cons (pv 2) pa_nil))))
      (Evl.pss_cut (ps_for PassesOwn.never rfl (pi_range2 (by rfl) T.z_range (pa_cons pe_int (pa_cons (pe_callB (r := Evl.rLenS K) call_len_seq (by rfl) T.z_len PySem.boot_len (pa_cons (pv 6) pa_nil)) pa_nil))) (pg_name (i := 4) sc_law_tree.nd rfl (by first | exact Or.inl rfl | exact Or.inr rfl)) (pss_one (ps_asg (pe_ix (r := rIxL K) ix_list (pe_op op_cat (pe_lst (pa_cons (pe_un un_neg pe_int) pa_nil)) (pe_slice (r := rSlL K) sl_list (pv 6) po_none (po_some (pv 4)))) (pe_call G_law_next (hr.mono (by omega)) (by rfl) T.g_law_next T.kp_law_next T.b_law_next .nil pass0 (pa_cons (pv 0) (pa_cons (pe_op op_add (pv 4) pe_int) pa_nil))) (fun _ _ => rfl)) (pg_sub (pv 7) (pe_ix (r := rIxL K) ix_list (pv 6) (pv 4) (fun _ _ => rfl)) set_list))))
      (pss_one (ps_ret (pe_tup (pa_cons (pe_callTy (r := Ov.rTupS K) call_tuple_of (by rfl) T.z_tuple (by decide +kernel) (pa_cons (pe_lc (own := [("_law_part", 8)]) rfl sc_law_tree.nd (Ov.pi_listK (K := K) rfl (pv 2)) (blkOk_by (own := [("_law_part", 8)]) (N := ["_law_h", "_law_program_here", "_law_parts", "_law_function", "_law_k", "_law_left", "_law_order", "_law_stands", "_law_part"]) (sc := defScope s_law_tree) (by decide +kernel)) (fun _ _ _ _ _ => (pg_name (i := 8) sc_law_tree.nd rfl (by first | exact Or.inl rfl | exact Or.inr rfl))) (fun _ _ _ _ _ => pts_nil) (fun _ _ _ _ _ => (pe_callTy (r := Ov.rTupS K) call_tuple_of (by rfl) T.z_tuple (by decide +kernel) (pa_cons (pv 8) pa_nil)))) pa_nil)) (pa_cons (pe_callTy (r := Ov.rTupS K) call_tuple_of (by rfl) T.z_tuple (by decide +kernel) (pa_cons (pv 7) pa_nil)) pa_nil))))))))))), ?_⟩
  refine ⟨sml 0, fun pl hpl => ?_⟩
  have npl := Dr.new dr hpl
  -- the parts
  refine ⟨fun σ' H' => ∃ (bs : List Addr) (ps : List (List Nat)) (y3 y4 : Option V), σ' = [some (.ref h), some (.ref a), some (.ref pl), y3, y4, none, none, none, none] ∧ But h c H H' ∧ Dr H' h c ∧ H' pl = some (.lst (bs.map V.ref)) ∧ bs.Nodup ∧ LsAt H' bs ps ∧ PInv n ps ∧ ∀ b ∈ bs, b ≠ h ∧ b ≠ c ∧ b ≠ pl, ?_, ?_⟩
  · refine ⟨_, rfl, a, vp, rfl, .inr (SqT.of (Same.new hpl _ _ hp)), _, rfl, by omega, by omega, for_range (lo := 0) (n := ((vp.length : Nat) : Int).toNat) (fun i σ' H' => ∃ (bs : List Addr) (ps : List (List Nat)) (y3 y4 : Option V), σ' = [some (.ref h), some (.ref a), some (.ref pl), y3, y4, none, none, none, none] ∧ But h c H H' ∧ Dr H' h c ∧ H' pl = some (.lst (bs.map V.ref)) ∧ bs.Nodup ∧ LsAt H' bs ps ∧ PInv i ps ∧ ∀ b ∈ bs, H b = none ∧ b ≠ h ∧ b ≠ c ∧ b ≠ pl)
      ⟨[], [], none, none, rfl, But.new hpl, dr.same (Same.new hpl), upd_same, List.nodup_nil, .nil, ⟨(fun _ h => nomatch h), (fun _ h => nomatch h), List.Pairwise.nil, List.Perm.refl _⟩, (fun _ h => nomatch h)⟩ ?_ ?_⟩
    · rintro i σ H1 hi ⟨bs, ps, y3, y4, rfl, b1, d1, hpl1, nd, ls, pv, hbs⟩
      rw [Int.toNat_natCast, hvp] at hi
      have hcount := pv.count
      have hlen : bs.length = ps.length := Paired.length ls
      have hrl : (bs.map V.ref).length = ps.length := by rw [List.length_map, hlen]
      -- k = next
      refine ⟨_, rfl, _, rfl, pl, _, rfl, .inl (SqL.of hpl1), _, 1, rfl, rfl, ?_⟩
      refine ⟨_, rfl, h, c, 2, rfl, d1, by decide, by decide, fun r1 H2 r10 r11 b2 d2 => ⟨_, r1, rfl, rfl, ?_⟩⟩
      refine ⟨h, c, _, rfl, d2, by rw [hrl]; omega, by rw [hrl]; omega, fun r H3 r0 r1 b3 d3 => ?_⟩
      have b23 := b2.trans b3
      have hpl3 := b23 _ _ npl.1 npl.2 hpl1
      have ls3 : LsAt H3 bs ps := LsAt.keep (fun b hb o ho => b23 b o (hbs b hb).2.1 (hbs b hb).2.2.1 ho) ls
      -- if k >= len(parts)
      refine ⟨fun σ' H' => ∃ (bs : List Addr) (ps : List (List Nat)) (j : Nat) (p : List Nat), σ' = [some (.ref h), some (.ref a), some (.ref pl), some (.int (0 + (i : Int))), some (.int (j : Int)), none, none, none, none] ∧ But h c H H' ∧ Dr H' h c ∧ H' pl = some (.lst (bs.map V.ref)) ∧ bs.Nodup ∧ LsAt H' bs ps ∧ ps[j]? = some p ∧ p.length ≤ i ∧ PInv (i + 1) (ps.set j (p ++ [i])) ∧ ∀ b ∈ bs, H b = none ∧ b ≠ h ∧ b ≠ c ∧ b ≠ pl, ?_, ?_⟩
      · refine ⟨_, rfl, _, rfl, pl, _, rfl, .inl (SqL.of hpl3), r, _, rfl, rfl, _, rfl, ite2 (fun _ => ?_) (fun ck => ?_)⟩
        · refine ⟨_, rfl, .inl ⟨rfl, _, SqL.of hpl3⟩, sml 0, fun b hb => ?_⟩
          have nb := Dr.new d3 hb
          have npb : pl ≠ b := ne_of_none hpl3 hb
          have hpl4 : upd H3 b (.lst []) pl = some (.lst (bs.map V.ref)) := by rw [upd_ne npb]; exact hpl3
          have nbs : ∀ b' ∈ bs, b' ≠ b := fun b' hb' => by
            obtain ⟨q, hq⟩ := ls3.mem b' hb'
            exact ne_of_none hq hb
          have fb : H b = none := by
            cases e : H b with
            | none => rfl
            | some o =>
              have := (b1.trans b23) b o nb.1 nb.2 e
              rw [hb] at this
              cases this
          refine ⟨pl, _, _, rfl, rfl, hpl4, sm _ (by rw [hrl]; omega), ?_⟩
          refine ⟨_, rfl, pl, _, rfl, .inl (SqL.of upd_same), _, 1, rfl, rfl, ?_⟩
          refine ⟨bs ++ [b], ps ++ [[]], ps.length, [], ?_, ?_, ?_, ?_, ?_, ?_, ?_, Nat.zero_le _, ?_, ?_⟩
          · have e : (((bs.map V.ref ++ [V.ref b]).length : Nat) : Int) - 1 = (ps.length : Int) := by
              rw [List.length_append, hrl, List.length_singleton]
              omega
            show [some (V.ref h), some (.ref a), some (.ref pl), some (.int (0 + (i : Int))), some (.int ((((bs.map V.ref ++ [V.ref b]).length : Nat) : Int) - 1)), none, none, none, none] = _
            rw [e]
          · exact (((b1.trans b23).trans (But.new hb))).updn hpl
          · exact (d3.same (Same.new hb)).upd npl.1 npl.2
          · rw [upd_same, List.map_append]; rfl
          · rw [List.nodup_append]
            exact ⟨nd, by simp, fun x hx y hy => by rw [List.mem_singleton.mp hy]; exact nbs x hx⟩
          · refine Paired.snoc (LsAt.keep (fun b' hb' o ho => ?_) ls3) ?_
            · rw [upd_ne (hbs b' hb').2.2.2, upd_ne (nbs b' hb')]
              exact ho
            · rw [upd_ne npb.symm, upd_same]
              rfl
          · rw [List.getElem?_append_right (Nat.le_refl _), Nat.sub_self]
            rfl
          · rw [set_last]
            exact pv.app
          · intro b' hb'
            rcases List.mem_append.mp hb' with z | z
            · exact hbs b' z
            · rw [List.mem_singleton.mp z]
              exact ⟨fb, nb.1, nb.2, npb.symm⟩
        · have ck2 : ¬ (((bs.map V.ref).length : Nat) : Int) ≤ r := of_decide_eq_false (Bool.eq_false_iff.mpr ck)
          rw [hrl] at ck2
          obtain ⟨j, rfl⟩ : ∃ j : Nat, r = (j : Int) := ⟨r.toNat, by omega⟩
          have hj : j < ps.length := by omega
          exact ⟨bs, ps, j, ps[j], rfl, b1.trans b23, d3, hpl3, nd, ls3, List.getElem?_eq_getElem hj, pv.plen (List.getElem_mem hj), pv.set (List.getElem?_eq_getElem hj), hbs⟩
      rintro σ4 H4 ⟨bs, ps, j, p, rfl, b4, d4, hpl4, nd, ls4, hj, hpi, pv4, hbs⟩
      obtain ⟨b, hbj, hb⟩ := ls4.get hj
      refine ⟨_, rfl, _, rfl, pl, _, j, .ref b, rfl, rfl, SqL.of hpl4, atI_nat (by rw [List.getElem?_map, hbj]; rfl), .inl ⟨rfl, _, SqL.of hb⟩, ?_⟩
      refine ⟨_, rfl, b, _, _, rfl, rfl, hb, sm _ (by rw [nV_len]; omega), ?_⟩
      have nb := hbs b (List.mem_of_getElem? hbj)
      have e : nV p ++ [V.int (0 + (i : Int))] = nV (p ++ [i]) := by rw [nV_app, Int.zero_add]
      rw [e]
      exact ⟨bs, _, _, _, rfl, b4.updn nb.1, d4.upd nb.2.1 nb.2.2.1, by rw [upd_ne nb.2.2.2.symm]; exact hpl4, nd, ls4.set nd hbj, pv4, hbs⟩
    · rintro σ H1 ⟨bs, ps, y3, y4, rfl, b1, d1, hpl1, nd, ls, pv, hbs⟩
      rw [Int.toNat_natCast, hvp] at pv
      exact ⟨bs, ps, y3, y4, rfl, b1, d1, hpl1, nd, ls, pv, fun b hb => (hbs b hb).2⟩
  rintro σ1 H1 ⟨bs, ps, y3, y4, rfl, b1, d1, hpl1, nd, ls, pv, hbs⟩
  have hcount := pv.count
  have hpos := pv.pos (by omega)
  have hlen : bs.length = ps.length := Paired.length ls
  have hrl : (bs.map V.ref).length = ps.length := by rw [List.length_map, hlen]
  -- left = list(range(len(parts)))
  refine ⟨_, rfl, pl, _, rfl, .inl (SqL.of hpl1), _, rfl, RgOk.of_le (by omega) (by omega) (by omega) (by omega), fun l hl => ?_⟩
  have nl := Dr.new d1 hl
  have erg : rgV 0 (((bs.map V.ref).length : Nat) : Int) = nV (List.range ps.length) := by rw [hrl, rgV_nV]
  rw [erg]
  have s2 := Same.new (o := .lst (nV (List.range ps.length))) hl
  have d2 := d1.same s2
  have hpl2 := s2 _ _ hpl1
  have ls2 : LsAt _ bs ps := LsAt.keep (fun b hb o ho => s2 b o ho) ls
  have npll : pl ≠ l := ne_of_none hpl1 hl
  have nbl : ∀ b ∈ bs, b ≠ l := fun b hb => by
    obtain ⟨q, hq⟩ := ls.mem b hb
    exact ne_of_none hq hl
  -- order
  refine ⟨_, rfl, pl, _, rfl, .inl (SqL.of hpl2), _, rfl, by omega, by omega, fun D hD => ?_⟩
  have nD := Dr.new d2 hD
  have nDl : l ≠ D := ne_of_none upd_same hD
  have nplD : pl ≠ D := ne_of_none hpl2 hD
  have nbD : ∀ b ∈ bs, b ≠ D := fun b hb => by
    obtain ⟨q, hq⟩ := ls2.mem b hb
    exact ne_of_none hq hD
  have fl1 : H l = none := by
    cases e : H l with
    | none => rfl
    | some o =>
      have := b1 l o nl.1 nl.2 e
      rw [hl] at this
      cases this
  have fD1 : H D = none := by
    cases e : H D with
    | none => rfl
    | some o =>
      have := s2 D o (b1 D o nD.1 nD.2 e)
      rw [hD] at this
      cases this
  refine lc_rangeY (lo := 0) (n := (((bs.map V.ref).length : Nat) : Int).toNat) (fun i H' => ∃ od lf : List Nat, But h c H H' ∧ Dr H' h c ∧ H' pl = some (.lst (bs.map V.ref)) ∧ LsAt H' bs ps ∧ H' l = some (.lst (nV lf)) ∧ H' D = some (.lst (nV od)) ∧ od.length = i ∧ (od ++ lf).Perm (List.range ps.length))
    ⟨[], List.range ps.length, (b1.trans (But.same s2)).trans (But.new hD), d2.same (Same.new hD), by rw [upd_ne nplD]; exact hpl2, LsAt.keep (fun b hb o ho => Same.new hD _ _ ho) ls2, by rw [upd_ne nDl, upd_same], upd_same, rfl, List.Perm.refl _⟩ ?_ ?_
  · rintro i H3 hi ⟨od, lf, b3, d3, hpl3, ls3, hl3, hD3, hod, hpm⟩
    rw [Int.toNat_natCast, hrl] at hi
    have hlf : od.length + lf.length = ps.length := by
      have z := hpm.length_eq
      rw [List.length_append, List.length_range] at z
      exact z
    refine ⟨rfl, _, rfl, .inl ⟨rfl, _, SqL.of hl3⟩, _, rfl, _, rfl, l, _, rfl, .inl (SqL.of hl3), ?_⟩
    refine ⟨h, c, _, rfl, d3, by rw [nV_len]; omega, by rw [nV_len]; omega, fun r H4 r0 r1 b4 d4 => ?_⟩
    rw [nV_len] at r1
    obtain ⟨j, rfl⟩ : ∃ j : Nat, r = (j : Int) := ⟨r.toNat, by omega⟩
    have hj : j < lf.length := by omega
    have hl4 := b4 _ _ nl.1 nl.2 hl3
    have hD4 := b4 _ _ nD.1 nD.2 hD3
    have hjx := List.getElem?_eq_getElem hj
    refine ⟨l, nV lf, j, j, .int ((lf[j] : Nat) : Int), rfl, rfl, hl4, by omega, by omega, ?_, nV_get hjx, ?_⟩
    · have z : ((j : Nat) : Int) < (((nV lf).length : Nat) : Int) := by rw [nV_len]; omega
      rw [PySem.seqIndex_of (by omega) z, Int.toNat_natCast]
    refine ⟨nV od, by rw [upd_ne nDl.symm]; exact hD4, sm _ (by rw [nV_len]; omega), od ++ [lf[j]], lf.eraseIdx j, ((b3.trans b4).updn fl1).updn fD1, (d4.upd nl.1 nl.2).upd nD.1 nD.2, ?_, ?_, ?_, ?_, by rw [List.length_append, hod]; rfl, ?_⟩
    · rw [upd_ne nplD, upd_ne npll]; exact b4 _ _ npl.1 npl.2 hpl3
    · refine LsAt.keep (fun b hb o ho => ?_) ls3
      rw [upd_ne (nbD b hb), upd_ne (nbl b hb)]
      exact b4 b o (hbs b hb).1 (hbs b hb).2.1 ho
    · rw [upd_ne nDl, upd_same, nV_erase]
    · rw [upd_same, nV_app]
    · rw [List.append_assoc]
      exact (List.Perm.append_left od (Ov.erase_perm lf j _ hjx)).trans hpm
  rintro H3 ⟨od, lf, b3, d3, hpl3, ls3, hl3, hD3, hod, hpm⟩
  rw [Int.toNat_natCast, hrl] at hod
  have elf : lf = [] := by
    have z := hpm.length_eq
    rw [List.length_append, List.length_range, hod] at z
    exact List.length_eq_zero_iff.mp (by omega)
  subst elf
  rw [List.append_nil] at hpm
  have hodn : od.Nodup := hpm.nodup_iff.mpr List.nodup_range
  have hodlt : ∀ x ∈ od, x < ps.length := fun x hx => List.mem_range.mp (hpm.mem_iff.mp hx)
  -- stands
  refine ⟨1, rfl, sml 1, fun l2 hl2 => ⟨_, rfl, pl, _, rfl, .inl (SqL.of (Same.new hl2 _ _ hpl3)), ?_⟩⟩
  refine ⟨l2, (((bs.map V.ref).length : Nat) : Int), _, rfl, rfl, upd_same, by omega, by omega, sml _ (by rw [List.length_singleton, Int.toNat_natCast, hrl]; omega), fun sl hsl => ?_⟩
  have erep : (List.replicate (((bs.map V.ref).length : Nat) : Int).toNat [V.int (-1)]).flatten = (List.replicate ps.length (-1 : Int)).map V.int := by rw [rep_neg, hrl]
  rw [erep]
  have s4 : Same H3 (upd (upd H3 l2 (.lst [V.int (-1)])) sl (.lst ((List.replicate ps.length (-1 : Int)).map V.int))) := (Same.new hl2).trans (Same.new hsl)
  have nsl := Dr.new (d3.same (Same.new hl2)) hsl
  have fsl := Same.free (Same.new (o := .lst [V.int (-1)]) hl2) hsl
  refine ⟨fun σ' H' => ∃ (st : List Int) (y4 : Option V), σ' = [some (.ref h), some (.ref a), some (.ref pl), y3, y4, some (.ref l), some (.ref D), some (.ref sl), none] ∧ But h c H3 H' ∧ Dr H' h c ∧ H' sl = some (.lst (st.map V.int)) ∧ st.length = ps.length ∧ SInv od st, ?_, ?_⟩
  · refine ⟨_, rfl, D, _, rfl, .inl (SqL.of (s4 _ _ hD3)), 1, _, rfl, ⟨by omega, by omega, by rw [nV_len]; omega, by rw [nV_len]; omega⟩, for_range (lo := 1) (n := ((((nV od).length : Nat) : Int) - 1).toNat) (fun i σ' H' => ∃ (st : List Int) (y4 : Option V), σ' = [some (.ref h), some (.ref a), some (.ref pl), y3, y4, some (.ref l), some (.ref D), some (.ref sl), none] ∧ But h c H3 H' ∧ Dr H' h c ∧ H' sl = some (.lst (st.map V.int)) ∧ st.length = ps.length ∧ SInv od st)
      ⟨List.replicate ps.length (-1), y4, rfl, But.same s4, d3.same s4, upd_same, List.length_replicate, SInv.start od _ hodlt⟩ ?_ ?_⟩
    · rintro i σ H5 hi ⟨st, y4', rfl, b5, d5, hst, hstl, sinv⟩
      have hk : 1 + i < od.length := by rw [nV_len] at hi; omega
      have hD5 := b5 _ _ nD.1 nD.2 hD3
      refine ⟨1, rfl, sml 1, fun l3 hl3 => ?_⟩
      have s6 := Same.new (o := .lst [V.int (-1)]) hl3
      refine ⟨_, rfl, _, rfl, _, rfl, D, _, rfl, SqL.of (s6 _ _ hD5), fun l4 hl4 => ?_⟩
      have ek : (1 : Int) + (i : Int) = (((1 + i : Nat)) : Int) := by omega
      rw [ek, cut_to (nV od) (1 + i) (by rw [nV_len]; omega)]
      have s7 := Same.new (o := .lst ((nV od).take (1 + i))) hl4
      refine ⟨l3, l4, _, _, rfl, rfl, s7 _ _ upd_same, upd_same, sml _ (by rw [List.length_take, nV_len, List.length_singleton]; omega), fun l5 hl5 => ?_⟩
      have s8 := Same.new (o := .lst ([V.int (-1)] ++ (nV od).take (1 + i))) hl5
      have d8 := ((d5.same s6).same s7).same s8
      have n5 := Dr.new ((d5.same s6).same s7) hl5
      refine ⟨_, rfl, _, rfl, _, 1, rfl, rfl, h, c, _, rfl, d8, by omega, by omega, fun r H9 r0 r1 b9 d9 => ?_⟩
      have b59 : But h c H5 H9 := (But.same (s6.trans (s7.trans s8))).trans b9
      have hD9 := b59 _ _ nD.1 nD.2 hD5
      have hst9 := b59 _ _ nsl.1 nsl.2 hst
      obtain ⟨z, hz, ez⟩ : ∃ z : Int, (z = -1 ∨ ∃ (j y : Nat), j < 1 + i ∧ od[j]? = some y ∧ z = ((y : Nat) : Int)) ∧ atI ([V.int (-1)] ++ (nV od).take (1 + i)) r = some (.int z) := by
        obtain ⟨j, rfl⟩ : ∃ j : Nat, r = (j : Int) := ⟨r.toNat, by omega⟩
        cases j with
        | zero => exact ⟨-1, .inl rfl, atI_nat (j := 0) rfl⟩
        | succ j =>
          have hj : j < 1 + i := by omega
          have hjo : j < od.length := by omega
          refine ⟨((od[j] : Nat) : Int), .inr ⟨j, od[j], hj, List.getElem?_eq_getElem hjo, rfl⟩, atI_nat ?_⟩
          show ((nV od).take (1 + i))[j]? = _
          rw [List.getElem?_take, if_pos hj]
          exact nV_get (List.getElem?_eq_getElem hjo)
      refine ⟨l5, _, r, .int z, rfl, rfl, SqL.of (b9 _ _ n5.1 n5.2 upd_same), ez, ?_⟩
      have hx := List.getElem?_eq_getElem hk
      have hxm : od[1 + i] < st.length := by rw [hstl]; exact hodlt _ (List.getElem_mem hk)
      refine ⟨_, rfl, _, rfl, _, rfl, D, _, _, .int ((od[1 + i] : Nat) : Int), rfl, rfl, SqL.of hD9, atI_nat (nV_get hx), ?_⟩
      refine ⟨sl, _, _, od[1 + i], rfl, rfl, hst9, Evl.ixN_nat (by rw [List.length_map]; exact hxm), ?_⟩
      refine ⟨st.set od[1 + i] z, _, rfl, (b5.trans b59).updn fsl, d9.upd nsl.1 nsl.2, by rw [upd_same, List.map_set], by rw [List.length_set]; exact hstl, sinv.set hodn hx hxm hz⟩
    · rintro σ H5 ⟨st, y4', rfl, b5, d5, hst, hstl, sinv⟩
      exact ⟨st, y4', rfl, b5, d5, hst, hstl, sinv⟩
  rintro σ5 H5 ⟨st, y4', rfl, b5, d5, hst, hstl, sinv⟩
  have hpl5 := b5 _ _ npl.1 npl.2 hpl3
  have ls5 : LsAt H5 bs ps := LsAt.keep (fun b hb o ho => b5 b o (hbs b hb).1 (hbs b hb).2.1 ho) ls3
  -- the tuples
  refine ⟨_, rfl, pl, rfl, ⟨_, SqL.of hpl5⟩, fun D2 hD2 => ?_⟩
  refine lc_listY (K := K) (a := pl) (xs := bs.map V.ref) (fun i H' => ∃ acc, Same H5 H' ∧ H' D2 = some (.lst acc) ∧ Paired (PartAt H') acc (ps.take i)) ⟨[], Same.new hD2, upd_same, .nil⟩ (fun i H' _ ⟨_, s, _⟩ => SqL.of (s _ _ hpl5)) ?_ ?_
  · rintro i x H6 hi ⟨acc, s6, hacc, hpa⟩
    obtain ⟨b, rfl, hbi⟩ : ∃ b, x = V.ref b ∧ bs[i]? = some b := by
      rw [List.getElem?_map] at hi
      cases e : bs[i]? with
      | none => rw [e] at hi; cases hi
      | some u => rw [e] at hi; exact ⟨u, (Option.some.inj hi).symm, rfl⟩
    have hib : i < bs.length := (List.getElem?_eq_some_iff.mp hbi).1
    have hip : i < ps.length := by omega
    obtain ⟨b', hb1, hb2⟩ := ls5.get (List.getElem?_eq_getElem hip)
    obtain rfl : b' = b := Option.some.inj (hb1.symm.trans hbi)
    refine ⟨rfl, _, rfl, b', _, rfl, .inl ⟨SqL.of (s6 _ _ hb2), fun t ht => ?_⟩⟩
    have st7 := Same.new (o := .tup (nV ps[i])) ht
    have hlacc : acc.length = i := by
      have z := Paired.length hpa
      rw [z, List.length_take]
      omega
    have kL := Keep.updL (ys := acc ++ [V.ref t]) (st7 _ _ hacc)
    refine ⟨acc, st7 _ _ hacc, sm _ (by omega), acc ++ [V.ref t], Ov.Same.updn (s6.trans st7) hD2, upd_same, ?_⟩
    rw [List.take_add_one, List.getElem?_eq_getElem hip]
    exact (L2.Paired.mapP hpa fun _ _ z => z.keep ((Keep.same st7).trans kL)).snoc ⟨t, rfl, kL _ _ upd_same⟩
  · rintro H6 ⟨acc, s6, hacc, hpa⟩
    rw [hrl, List.take_length] at hpa
    refine ⟨D2, acc, rfl, .inl ⟨SqL.of hacc, fun pa hpa2 => ?_⟩⟩
    have s7 := Same.new (o := .tup acc) hpa2
    refine ⟨_, rfl, sl, _, rfl, .inl ⟨SqL.of (s7 _ _ (s6 _ _ hst)), fun sa hsa => ⟨sml 2, fun t ht => ?_⟩⟩⟩
    have s8 := Same.new (o := .tup (st.map V.int)) hsa
    have s9 := Same.new (o := .tup [V.ref pa, .ref sa]) ht
    refine q _ _ ps st (b3.trans (b5.trans (But.same (s6.trans (s7.trans (s8.trans s9)))))) ((((d5.same s6).same s7).same s8).same s9) ⟨t, pa, sa, acc, rfl, upd_same, s9 _ _ (s8 _ _ upd_same), L2.Paired.mapP hpa fun _ _ z => z.keep (Keep.same (s7.trans (s8.trans s9))), s9 _ _ upd_same⟩ ⟨pv, hstl, od, hpm, sinv⟩
end
end K07

namespace K07
open PySem PySem.Spec PyProof.Rows L2 Ov
section
variable {P : Program} {w : World} {K : PySem.W.Frag} {mg : Str → Option Value} {base : Heap}
theorem sc_law_number : FnScope ["_law_h"] ["_law_h"] (defScope s_law_number) := ⟨rfl, rfl, rfl, by decide +kernel, rfl, by decide +kernel, by decide +kernel⟩
-- 0 _law_h
theorem ok_law_number (T : Txt w K mg) : FnOk P w K mg base CX0 2 (He.ga K "_law_number") (fdOf K d_law_number) ["_law_h"] spNumber := by
  have G_law_next := ok_law_next (P := P) (base := base) T
  refine T.F_law_number.ok sc_law_number (fun vs H Q E h => ?_) (fun cdv A outer s H vs Q E hr h => ?_)
  · obtain ⟨h, c, rfl, _⟩ := h
    rfl
  obtain ⟨h, c, rfl, d, q⟩ := h
  refine ⟨_, PSs.nox (pss_one (ps_ret (pe_ix (r := rIxL K) ix_list (pe_lst (pa_cons (pe_call G_law_next (hr.mono (by omega)) (by rfl) T.g_law_next T.kp_law_next T.b_law_next .nil pass0 (pa_cons (pv 0) (pa_cons pe_int pa_nil))) (pa_cons (pe_call G_law_next (hr.mono (by omega)) (by rfl) T.g_law_next T.kp_law_next T.b_law_next .nil pass0 (pa_cons (pv 0) (pa_cons pe_int pa_nil))) (pa_cons (pe_call G_law_next (hr.mono (by omega)) (by rfl) T.g_law_next T.kp_law_next T.b_law_next .nil pass0 (pa_cons (pv 0) (pa_cons pe_int pa_nil))) pa_nil)))) (pe_call G_law_next (hr.mono (by omega)) (by rfl) T.g_law_next T.kp_law_next T.b_law_next .nil pass0 (pa_cons (pv 0) (pa_cons pe_int pa_nil))) (fun _ _ => rfl)))), ?_⟩
  refine ⟨_, rfl, h, c, 5, rfl, d, by decide, by decide, fun r1 H1 r10 r11 b1 d1 => ?_⟩
  refine ⟨_, rfl, h, c, 12, rfl, d1, by decide, by decide, fun r2 H2 r20 r21 b2 d2 => ?_⟩
  refine ⟨_, rfl, h, c, 1000, rfl, d2, by decide, by decide, fun r3 H3 r30 r31 b3 d3 => ?_⟩
  refine ⟨sml 3, fun l hl => ?_⟩
  have s4 := Same.new (o := .lst [.int r1, .int r2, .int r3]) hl
  refine ⟨_, rfl, h, c, 3, rfl, d3.same s4, by decide, by decide, fun r H4 r0 rl b4 d4 => ?_⟩
  have nl := Dr.new d3 hl
  have el := b4 _ _ nl.1 nl.2 (upd_same (H := H3) (a := l) (o := .lst [.int r1, .int r2, .int r3]))
  have bb : But h c H H4 := b1.trans (b2.trans (b3.trans ((But.same s4).trans b4)))
  have hcase : r = 0 ∨ r = 1 ∨ r = 2 := by omega
  rcases hcase with rfl | rfl | rfl
  · exact ⟨l, _, 0, _, rfl, rfl, SqL.of el, atI_nat (j := 0) rfl, q r1 H4 r10 (by omega) bb d4⟩
  · exact ⟨l, _, 1, _, rfl, rfl, SqL.of el, atI_nat (j := 1) rfl, q r2 H4 r20 (by omega) bb d4⟩
  · exact ⟨l, _, 2, _, rfl, rfl, SqL.of el, atI_nat (j := 2) rfl, q r3 H4 r30 r31 bb d4⟩
end
end K07

namespace K07
open PySem PySem.Spec PyProof.Rows L2 Ov
section
variable {P : Program} {w : World} {K : PySem.W.Frag} {mg : Str → Option Value} {base : Heap}
/-! ### the tables -/
theorem arms_at (T : Txt w K mg) (o : Op) : KDct K w (He.ga K "ARMS") o.name (.int (o.arity : Int)) := by
  obtain ⟨es, n, D⟩ := T.kd_ARMS
  have hm : ((o.name, .int (o.arity : Int)) : Str × He.Dv) ∈ kv_ARMS := by cases o <;> simp [kv_ARMS, Op.name, Op.arity]
  obtain ⟨u, h1, h2⟩ := He.valsB_ok T.v_ARMS hm
  exact ⟨es, n, u, D.at_, D.lit, h1, h2⟩
theorem arms_in (T : Txt w K mg) (o : Op) : ∃ r, PySem.W.nsIn K (He.ga K "ARMS") o.name = some r ∧ r.isSome = true := by
  have hm : ((o.name, .int (o.arity : Int)) : Str × He.Dv) ∈ kv_ARMS := by cases o <;> simp [kv_ARMS, Op.name, Op.arity]
  obtain ⟨u, h1, h2⟩ := He.valsB_ok T.v_ARMS hm
  exact ⟨some u, h1, rfl⟩
def gword (o : Op) : Str := if o = .num then "number" else "function"
theorem given_mem (o : Op) (h : o.gives = true) : ((o.name, .str (gword o)) : Str × He.Dv) ∈ kv_GIVEN := by cases o <;> first | (simp [kv_GIVEN, Op.name, gword]; done) | cases h
theorem given_at (T : Txt w K mg) (o : Op) (h : o.gives = true) : KDct K w (He.ga K "GIVEN") o.name (.str (gword o)) := by
  obtain ⟨es, n, D⟩ := T.kd_GIVEN
  obtain ⟨u, h1, h2⟩ := He.valsB_ok T.v_GIVEN (given_mem o h)
  exact ⟨es, n, u, D.at_, D.lit, h1, h2⟩
theorem given_in (T : Txt w K mg) (o : Op) : ∃ r, PySem.W.nsIn K (He.ga K "GIVEN") o.name = some r ∧ r.isSome = o.gives := by
  cases h : o.gives with
  | true =>
    obtain ⟨u, h1, h2⟩ := He.valsB_ok T.v_GIVEN (given_mem o h)
    exact ⟨some u, h1, rfl⟩
  | false =>
    have hm : o.name ∈ miss_GIVEN := by cases o <;> first | (simp [miss_GIVEN, Op.name]; done) | cases h
    exact ⟨none, He.eqO_ok (List.all_eq_true.mp T.m_GIVEN _ hm), rfl⟩
theorem sc_between : FnScope ["value", "low", "high"] ["value", "low", "high"] (defScope s_between) := ⟨rfl, rfl, rfl, by decide +kernel, rfl, by decide +kernel, by decide +kernel⟩
-- 0 value, 1 low, 2 high
theorem ok_between (T : Txt w K mg) : FnOk P w K mg base CX0 1 (He.ga K "between") (fdOf K d_between) ["value", "low", "high"] spBetween := by
  refine T.F_between.ok sc_between (fun vs H Q E h => ?_) (fun cdv A outer s H vs Q E hr h => ?_)
  · obtain ⟨v, lo, hi, rfl, _⟩ := h
    rfl
  obtain ⟨v, lo, hi, rfl, q⟩ := h
  refine ⟨_, PSs.nox (pss_one (ps_ret (pe_and (pe_callB (r := rIsi K) call_isi (by rfl) T.z_isinstance (by decide +kernel) (pa_cons (pv 0) (pa_cons (pe_bltn (v := .ty "int") (by rfl) T.z_int (by decide +kernel) rfl) pa_nil))) (pe_and (pe_not (pe_callB (r := rIsi K) call_isi (by rfl) T.z_isinstance (by decide +kernel) (pa_cons (pv 0) (pa_cons (pe_bltn (v := .ty "bool") (by rfl) T.z_bool (by decide +kernel) rfl) pa_nil)))) (pe_one (pe_chain op_le op_le (pv 1) (pv 0) (pv 2))))))), ?_⟩
  refine ⟨_, rfl, .int v, .ty "int", .type "int", .type "int", true, rfl, .ty _, .base (.int v), k_int_int, true, rfl, ?_⟩
  refine ⟨_, rfl, .int v, .ty "bool", .type "int", .type "bool", false, rfl, .ty _, .base (.int v), k_int_bool, false, rfl, true, rfl, ?_⟩
  refine ⟨_, rfl, _, rfl, lo, v, rfl, rfl, _, rfl, ?_⟩
  refine ite2 (fun a => ?_) (fun a => ?_)
  · have a1 : lo ≤ v := of_decide_eq_true a
    refine ⟨_, rfl, v, hi, rfl, rfl, ?_⟩
    show Q (.bl (decide (v ≤ hi))) H
    rw [show decide (v ≤ hi) = decide (lo ≤ v ∧ v ≤ hi) by simp [a1]]
    exact q
  · have a1 : ¬ lo ≤ v := of_decide_eq_false (Bool.eq_false_iff.mpr a)
    show Q (.bl false) H
    rw [show false = decide (lo ≤ v ∧ v ≤ hi) by simp [a1]]
    exact q
theorem sc_given_of : FnScope ["word"] ["word"] (defScope s_given_of) := ⟨rfl, rfl, rfl, by decide +kernel, rfl, by decide +kernel, by decide +kernel⟩
-- 0 word
theorem ok_given_of (T : Txt w K mg) : FnOk P w K mg base CX0 1 (He.ga K "given_of") (fdOf K d_given_of) ["word"] spGivenOf := by
  refine T.F_given_of.ok sc_given_of (fun vs H Q E h => ?_) (fun cdv A outer s H vs Q E hr h => ?_)
  · obtain ⟨a, o, g, us, rfl, _⟩ := h
    rfl
  obtain ⟨a, o, g, us, rfl, ⟨ha, hl⟩, q⟩ := h
  obtain ⟨es, n, D_GIVEN⟩ := T.kd_GIVEN
  obtain ⟨r, hr1, hr2⟩ := given_in T o
  refine ⟨_, PSs.nox (pss_one (ps_ret (pe_ifExp (pt_cmpR (r := Ov.rInKd K (He.ga K "GIVEN") false) (op_in_kd D_GIVEN) (pe_ix (r := rIxT K) ix_tup (pv 0) pe_int (fun _ _ => rfl)) (pe_glob (v := .ref (He.ga K "GIVEN")) (by rfl) T.g_GIVEN rfl) (by first | rfl | exact nomark _)) (pe_ix (r := rIxT K) ix_tup (pv 0) pe_int (fun _ _ => rfl)) pe_non))), ?_⟩
  refine ⟨_, rfl, a, _, 0, .str o.name, rfl, rfl, SqT.of ha, atI_nat (j := 0) rfl, o.name, r, rfl, rfl, hr1, _, rfl, ?_⟩
  unfold Op.gV at q
  rw [← hr2] at q
  refine ite2 (fun z => ?_) (fun z => ?_)
  · have z1 : r.isSome = true := z
    rw [z1] at q hr2
    have eg : o.pre g = [.int g] := by unfold Op.pre; rw [← hr2]; rfl
    refine ⟨_, rfl, a, _, 1, .int g, rfl, rfl, SqT.of ha, atI_nat (j := 1) (by rw [eg]; rfl), q⟩
  · have z1 : r.isSome = false := Bool.eq_false_iff.mpr z
    rw [z1] at q
    exact q
theorem sc_arms_of : FnScope ["word"] ["word"] (defScope s_arms_of) := ⟨rfl, rfl, rfl, by decide +kernel, rfl, by decide +kernel, by decide +kernel⟩
-- 0 word
theorem ok_arms_of (T : Txt w K mg) : FnOk P w K mg base CX0 1 (He.ga K "arms_of") (fdOf K d_arms_of) ["word"] spArmsOf := by
  refine T.F_arms_of.ok sc_arms_of (fun vs H Q E h => ?_) (fun cdv A outer s H vs Q E hr h => ?_)
  · obtain ⟨a, o, g, us, rfl, _⟩ := h
    rfl
  obtain ⟨a, o, g, us, rfl, ⟨ha, hl⟩, q⟩ := h
  refine ⟨_, PSs.nox (pss_one (ps_ret (pe_slice (r := rSlA K) sl_tupA (pv 0) (po_some (pe_op op_sub (pe_callB (r := Evl.rLenS K) call_len_seq (by rfl) T.z_len PySem.boot_len (pa_cons (pv 0) pa_nil)) (pe_ix (r := rIxD K w) ix_kdict (pe_glob (v := .ref (He.ga K "ARMS")) (by rfl) T.g_ARMS rfl) (pe_ix (r := rIxT K) ix_tup (pv 0) pe_int (fun _ _ => rfl)) (fun _ _ => rfl)))) po_none))), ?_⟩
  refine ⟨_, rfl, _, rfl, a, _, rfl, .inr (SqT.of ha), _, rfl, a, _, 0, .str o.name, rfl, rfl, SqT.of ha, atI_nat (j := 0) rfl, _, o.name, _, rfl, rfl, arms_at T o, _, _, rfl, rfl, _, rfl, ?_⟩
  have hn : (.str o.name :: (o.pre g ++ us) : List V).length = 1 + (o.pre g).length + us.length := by rw [List.length_cons, List.length_append]; omega
  have ec : (((.str o.name :: (o.pre g ++ us) : List V).length : Nat) : Int) - (o.arity : Int) = (((1 + (o.pre g).length : Nat)) : Int) := by rw [hn, ← hl]; omega
  have es : HT.sIx (.str o.name :: (o.pre g ++ us) : List V).length 0 (some ((((.str o.name :: (o.pre g ++ us) : List V).length : Nat) : Int) - (o.arity : Int))) = 1 + (o.pre g).length := by
    rw [ec, HT.sIx_nat, hn]
    omega
  refine ⟨a, _, rfl, SqT.of ha, fun z => ?_, fun _ p hp => ?_⟩
  · have z1 := z.1
    rw [es] at z1
    omega
  · have ecut : cutV (.str o.name :: (o.pre g ++ us) : List V) (some ((((.str o.name :: (o.pre g ++ us) : List V).length : Nat) : Int) - (o.arity : Int))) none = us := by
      unfold cutV
      rw [es, HT.sIx_none, hn]
      have e1 : (.str o.name :: (o.pre g ++ us) : List V).drop (1 + (o.pre g).length) = us := by
        rw [Nat.add_comm, List.drop_succ_cons, List.drop_left]
      rw [e1, show 1 + (o.pre g).length + us.length - (1 + (o.pre g).length) = us.length by omega, List.take_length]
    rw [ecut]
    exact q p hp
theorem sc_given_fits : FnScope ["kind", "given", "functions"] ["kind", "given", "functions"] (defScope s_given_fits) := ⟨rfl, rfl, rfl, by decide +kernel, rfl, by decide +kernel, by decide +kernel⟩
-- 0 kind, 1 given, 2 functions
theorem ok_given_fits (T : Txt w K mg) : FnOk P w K mg base CX0 2 (He.ga K "given_fits") (fdOf K d_given_fits) ["kind", "given", "functions"] spGivenFits := by
  have G_between := ok_between (P := P) (base := base) T
  refine T.F_given_fits.ok sc_given_fits (fun vs H Q E h => ?_) (fun cdv A outer s H vs Q E hr h => ?_)
  · obtain ⟨o, g, n, rfl, _⟩ := h
    rfl
  obtain ⟨o, g, n, rfl, hg, hf, q⟩ := h
  refine ⟨_, PSs.nox (pss_cons (ps_if (pt_cmpR op_eq (pv 0) pe_str (nomark _)) (pss_one (ps_ret (pe_call G_between (hr.mono (by omega)) (by rfl) T.g_between T.kp_between T.b_between .nil pass0 (pa_cons (pv 1) (pa_cons pe_int (pa_cons (pe_op op_sub (pv 2) pe_int) pa_nil)))))) pss_nil)
      (pss_one (ps_ret (pe_call G_between (hr.mono (by omega)) (by rfl) T.g_between T.kp_between T.b_between .nil pass0 (pa_cons (pv 1) (pa_cons pe_int (pa_cons (pe_glob (v := .int 99) (by rfl) T.i_GREATEST_WRITTEN.choose_spec ⟨_, rfl⟩) pa_nil))))))), ?_⟩
  refine ⟨_, rfl, rfl, _, rfl, ?_⟩
  have no : decide (V.str "number" = V.str "function") = false := by decide +kernel
  have yes : decide (V.str "function" = V.str "function") = true := decide_eq_true rfl
  cases o with
  | num =>
    rw [if_pos rfl, no]
    refine iteF ?_
    refine ⟨_, rfl, g, 0, 99, rfl, ?_⟩
    rw [decide_eq_true (show (0 : Int) ≤ g ∧ g ≤ 99 from hf)]
    exact q
  | way =>
    rw [if_neg (by decide), yes]
    have hf2 : 0 ≤ g ∧ g < n := hf
    refine ⟨_, rfl, _, rfl, _, 1, rfl, rfl, g, 0, _, rfl, ?_⟩
    rw [decide_eq_true (show (0 : Int) ≤ g ∧ g ≤ (n : Int) - 1 from ⟨hf2.1, by omega⟩)]
    exact q
  | call =>
    rw [if_neg (by decide), yes]
    have hf2 : 0 ≤ g ∧ g < n := hf
    refine ⟨_, rfl, _, rfl, _, 1, rfl, rfl, g, 0, _, rfl, ?_⟩
    rw [decide_eq_true (show (0 : Int) ≤ g ∧ g ≤ (n : Int) - 1 from ⟨hf2.1, by omega⟩)]
    exact q
  | _ => cases hg
end
end K07

namespace K07
open PySem PySem.Spec PyProof.Rows L2 Ov
section
variable {P : Program} {w : World} {K : PySem.W.Frag} {mg : Str → Option Value} {base : Heap}
theorem sc_add_word : FnScope ["rows", "word", "number", "arms", "arm"] ["rows", "word"] (defScope s_add_word) := ⟨rfl, rfl, rfl, by decide +kernel, rfl, by decide +kernel, by decide +kernel⟩
-- 0 rows, 1 word, 2 number, 3 arms, 4 arm
theorem ok_add_wordS (T : Txt w K mg) {d : Nat} (G_add_word : FnOk P w K mg base CX0 (d + 1) (He.ga K "add_word") (fdOf K d_add_word) ["rows", "word"] (spAddWord d)) :
    FnOk P w K mg base CX0 (d + 2) (He.ga K "add_word") (fdOf K d_add_word) ["rows", "word"] (spAddWord (d + 1)) := by
  have G_arms_of := ok_arms_of (P := P) (base := base) T
  have G_given_of := ok_given_of (P := P) (base := base) T
  refine T.F_add_word.ok sc_add_word (fun vs H Q E h => ?_) (fun cdv A outer s H vs Q E hr h => ?_)
  · obtain ⟨l, v, n, u, xs, rfl, _⟩ := h
    rfl
  obtain ⟨l, v, n, u, xs, rfl, hl, hv, ok, hz, q⟩ := h
  cases hv with
  | @mk a o g vs as ha hs =>
  cases ok with
  | mk h1 h2 h3 =>
  have hlen := hs.length
  rw [W.size_mk] at hz
  have has : as.length ≤ 3 := by rw [h1]; cases o <;> decide
  refine ⟨_, PSs.nox (pss_cons (ps_set (i := 2) sc_add_word.nd rfl (by first | exact Or.inl rfl | exact Or.inr rfl) (pe_callB (r := Evl.rLenS K) call_len_seq (by rfl) T.z_len PySem.boot_len (pa_cons (pv 0) pa_nil)))
      (pss_cons (ps_expr (Ov.pe_bmK (K := K) rfl PySem.F.plainAttrs_list PySem.F.slot_list_append PySem.F.type_list_append mt_append (pv 0) (pa_cons pe_non pa_nil)))
      (pss_cons (ps_set (i := 3) sc_add_word.nd rfl (by first | exact Or.inl rfl | exact Or.inr rfl) (pe_lst pa_nil))
      (pss_cons (ps_for PassesOwn.never rfl (Ov.pi_tupK (K := K) rfl (pe_call G_arms_of (hr.mono (by omega)) (by rfl) T.g_arms_of T.kp_arms_of T.b_arms_of .nil pass0 (pa_cons (pv 1) pa_nil))) (pg_name (i := 4) sc_add_word.nd rfl (by first | exact Or.inl rfl | exact Or.inr rfl)) (pss_one (ps_expr (Ov.pe_bmK (K := K) rfl PySem.F.plainAttrs_list PySem.F.slot_list_append PySem.F.type_list_append mt_append (pv 3) (pa_cons (pe_call G_add_word (hr.mono (by omega)) (by rfl) T.g_add_word T.kp_add_word T.b_add_word .nil pass0 (pa_cons (pv 0) (pa_cons (pv 4) pa_nil))) pa_nil)))))
      (pss_cons (ps_asg (pe_tup (pa_cons (pe_ix (r := rIxT K) ix_tup (pv 1) pe_int (fun _ _ => rfl)) (pa_cons (pe_call G_given_of (hr.mono (by omega)) (by rfl) T.g_given_of T.kp_given_of T.b_given_of .nil pass0 (pa_cons (pv 1) pa_nil)) (pa_cons (pe_callTy (r := Ov.rTupS K) call_tuple_of (by rfl) T.z_tuple (by decide +kernel) (pa_cons (pv 3) pa_nil)) pa_nil)))) (pg_sub (pv 0) (pv 2) set_list))
      (pss_one (ps_ret (pv 2)))))))), ?_⟩
  refine ⟨_, rfl, l, xs, rfl, .inl (SqL.of hl), ?_⟩
  refine ⟨_, rfl, .inl ⟨rfl, _, SqL.of hl⟩, l, xs, _, rfl, rfl, hl, sm _ (by omega), sml 0, fun al hal => ?_⟩
  have nal : l ≠ al := ne_of_none upd_same hal
  have hal0 : H al = none := by rw [upd_ne nal.symm] at hal; exact hal
  have b1 : ButL l H (upd (upd H l (.lst (xs ++ [.non]))) al (.lst [])) := ButL.upd.trans (.same (Same.new hal))
  have hl1 : (upd (upd H l (.lst (xs ++ [.non]))) al (.lst [])) l = some (.lst (xs ++ [.non])) := by rw [upd_ne nal, upd_same]
  have nla : a ≠ l := ne_of ha hl (by intro z; cases z)
  have ha1 := b1 a _ nla ha
  refine ⟨_, rfl, a, o, g, vs, rfl, ⟨ha1, hlen.trans h1⟩, fun p hp => ?_⟩
  have npl : l ≠ p := ne_of_none hl1 hp
  have npa : al ≠ p := ne_of_none upd_same hp
  refine ⟨p, rfl, ⟨_, SqT.of upd_same⟩, for_tup (K := K) (a := p) (xs := vs) (fun i σ H' => ∃ (y4 : Option V) (ys : List V), σ = [some (.ref l), some (.ref a), some (.int (xs.length : Int)), some (.ref al), y4] ∧ ButL l H H' ∧ H' l = some (.lst (xs ++ [.non] ++ ys)) ∧ Paired (RowAt H') ys (W.rowss (xs.length + 1) (as.take i)) ∧ H' al = some (.lst (nV (starts (xs.length + 1) (as.take i)))) ∧ H' p = some (.tup vs))
    ⟨none, [], rfl, b1.trans (.same (Same.new hp)), by rw [upd_ne npl, hl1, List.append_nil], by rw [List.take_zero, W.rowss]; exact .nil, by rw [upd_ne npa, upd_same]; rfl, upd_same⟩ (fun i σ H' _ ⟨_, _, _, _, _, _, _, e⟩ => SqT.of e) ?_ ?_⟩
  · rintro i x σ H1 hi ⟨y4, ys, rfl, b2, hl2, hys, hal2, hp2⟩
    obtain ⟨u, hu, hxu⟩ := WsAt.get hs hi
    have hlr := Paired.length hys
    rw [W.rowss_len] at hlr
    have hsz := size_get as i u hu
    have hlx : (xs ++ [.non] ++ ys : List V).length = xs.length + 1 + W.sizes (as.take i) := by rw [List.length_append, List.length_append, hlr]; rfl
    refine ⟨_, rfl, .inl ⟨rfl, _, SqL.of hal2⟩, _, rfl, _, rfl, l, x, n, u, xs ++ [.non] ++ ys, rfl, hl2, hxu.keep (b2.keep hl), h3 u (List.mem_of_getElem? hu), by rw [hlx]; omega, fun H3 zs b3 hl3 hzs => ?_⟩
    have hal3 := b3 _ _ nal.symm hal2
    have k3 := b3.keep hl2
    have kL := Keep.updL (ys := nV (starts (xs.length + 1) (as.take i)) ++ [V.int ((xs ++ [.non] ++ ys : List V).length : Int)]) hal3
    refine ⟨al, _, _, rfl, rfl, hal3, sm _ (by rw [nV_len, starts_len, List.length_take]; omega), _, ys ++ zs, rfl, ?_, ?_, ?_, ?_, ?_⟩
    · exact fun c u' n1 e => by rw [upd_ne (ne_of_none e hal0)]; exact (b2.trans b3) c u' n1 e
    · rw [upd_ne nal, hl3, List.append_assoc _ ys zs]
    · rw [List.take_add_one, hu]
      show Paired _ _ (W.rowss (xs.length + 1) (as.take i ++ [u]))
      rw [rowss_snoc]
      refine paired_app (L2.Paired.mapP hys fun _ _ z => z.keep (k3.trans kL)) ?_
      rw [hlx] at hzs
      exact L2.Paired.mapP hzs fun _ _ z => z.keep kL
    · rw [upd_same, List.take_add_one, hu]
      show some (HO.lst _) = some (HO.lst (nV (starts (xs.length + 1) (as.take i ++ [u]))))
      rw [starts_snoc, nV_app, hlx]
    · rw [upd_ne (ne_of hp2 hal2 (by intro z; cases z)).symm.symm]
      exact b3 _ _ npl.symm hp2
  · rintro σ H1 ⟨y4, ys, rfl, b2, hl2, hys, hal2, hp2⟩
    rw [hlen, List.take_length] at hys hal2
    have ha2 := b2 a _ nla ha
    refine ⟨_, rfl, a, _, 0, .str o.name, rfl, rfl, SqT.of ha2, atI_nat (j := 0) rfl, _, rfl, a, o, g, vs, rfl, ⟨ha2, hlen.trans h1⟩, _, rfl, al, _, rfl, .inl ⟨SqL.of hal2, fun ta hta => ⟨sml 3, fun t ht => ?_⟩⟩⟩
    have s3 := (Same.new (o := .tup (nV (starts (xs.length + 1) as))) hta).trans (Same.new (o := .tup [.str o.name, o.gV g, .ref ta]) ht)
    have hl3 := s3 _ _ hl2
    refine ⟨_, rfl, _, rfl, l, _, _, xs.length, rfl, rfl, hl3, Evl.ixN_nat (by rw [List.length_append, List.length_append, List.length_singleton]; omega), _, rfl, ?_⟩
    have kL := Keep.updL (ys := (xs ++ [V.non] ++ ys).set xs.length (V.ref t)) hl3
    refine q _ (.ref t :: ys) ((b2.trans (.same s3)).trans ButL.upd) (by rw [upd_same, set_mid]) ?_
    rw [W.rows_mk]
    have nta : ta ≠ t := ne_of_none upd_same ht
    exact .cons ⟨t, ta, rfl, kL _ _ upd_same, kL _ _ (by rw [upd_ne nta, upd_same])⟩ (L2.Paired.mapP hys fun _ _ z => z.keep ((Keep.same s3).trans kL))
theorem ok_add_word (T : Txt w K mg) : ∀ d : Nat, FnOk P w K mg base CX0 (d + 1) (He.ga K "add_word") (fdOf K d_add_word) ["rows", "word"] (spAddWord d)
  | 0 => fn0 fun vs H Q E ⟨_, _, _, _, _, _, _, _, h, _⟩ => nomatch h
  | d + 1 => ok_add_wordS T (ok_add_word T d)
theorem sc_words_of : FnScope ["body", "rows"] ["body"] (defScope s_words_of) := ⟨rfl, rfl, rfl, by decide +kernel, rfl, by decide +kernel, by decide +kernel⟩
-- 0 body, 1 rows
theorem ok_words_of (T : Txt w K mg) : FnOk P w K mg base CX0 9 (He.ga K "words_of") (fdOf K d_words_of) ["body"] spWordsOf := by
  have G_add_word := ok_add_word (P := P) (base := base) T 7
  refine T.F_words_of.ok sc_words_of (fun vs H Q E h => ?_) (fun cdv A outer s H vs Q E hr h => ?_)
  · obtain ⟨v, n, u, rfl, _⟩ := h
    rfl
  obtain ⟨v, n, u, rfl, hv, ok, hz, q⟩ := h
  refine ⟨_, PSs.nox (pss_cons (ps_set (i := 1) sc_words_of.nd rfl (by first | exact Or.inl rfl | exact Or.inr rfl) (pe_lst pa_nil))
      (pss_cons (ps_expr (pe_call G_add_word (hr.mono (by omega)) (by rfl) T.g_add_word T.kp_add_word T.b_add_word .nil pass0 (pa_cons (pv 1) (pa_cons (pv 0) pa_nil))))
      (pss_one (ps_ret (pv 1))))), ?_⟩
  refine ⟨sml 0, fun l hl => ⟨_, rfl, _, rfl, l, v, n, u, [], rfl, upd_same, hv.keep (Keep.same (Same.new hl)), ok, by show 0 + u.size ≤ 1000; omega, fun H' ys b e r => ⟨_, rfl, ?_⟩⟩⟩
  exact q H' l ys (fun a o h => b a o (ne_of_none h hl) (Same.new hl a o h)) hl e r
theorem sc_word_fits : FnScope ["word", "functions", "around", "name", "ahead", "arm"] ["word", "functions", "around"] (defScope s_word_fits) := ⟨rfl, rfl, rfl, by decide +kernel, rfl, by decide +kernel, by decide +kernel⟩
-- 0 word, 1 functions, 2 around, 3 name, 4 ahead, 5 arm
theorem ok_word_fitsS (T : Txt w K mg) {d : Nat} (G_word_fits : FnOk P w K mg base CX0 (d + 2) (He.ga K "word_fits") (fdOf K d_word_fits) ["word", "functions", "around"] (spWordFits d)) :
    FnOk P w K mg base CX0 (d + 3) (He.ga K "word_fits") (fdOf K d_word_fits) ["word", "functions", "around"] (spWordFits (d + 1)) := by
  have G_arms_of := ok_arms_of (P := P) (base := base) T
  have G_given_fits := ok_given_fits (P := P) (base := base) T
  obtain ⟨_, _, D_ARMS⟩ := T.kd_ARMS
  obtain ⟨_, _, D_GIVEN⟩ := T.kd_GIVEN
  refine T.F_word_fits.ok sc_word_fits (fun vs H Q E h => ?_) (fun cdv A outer s H vs Q E hr h => ?_)
  · obtain ⟨v, n, u, r, rfl, _⟩ := h
    rfl
  obtain ⟨v, n, u, r, rfl, hv, ok, r0, r7, q⟩ := h
  cases hv with
  | @mk a o g vs as ha hs =>
  cases ok with
  | mk h1 h2 h3 =>
  have hlen := hs.length
  obtain ⟨ra, ra1, ra2⟩ := arms_in T o
  obtain ⟨rg, rg1, rg2⟩ := given_in T o
  refine ⟨_, PSs.nox (pss_cons (ps_if (PW.pt (pw_or (pt_cmpR op_gt (pv 2) (pe_glob (v := .int 6) (by rfl) T.i_MOST_AROUND.choose_spec ⟨_, rfl⟩) (nomark _)) (pw_or (pt_not (pt_val (pe_callB (r := rIsi K) call_isi (by rfl) T.z_isinstance (by decide +kernel) (pa_cons (pv 0) (pa_cons (pe_bltn (v := .ty "tuple") (by rfl) T.z_tuple (by decide +kernel) rfl) pa_nil))))) (pw_or1 (pt_cmpR op_eq (pe_callB (r := Evl.rLenS K) call_len_seq (by rfl) T.z_len PySem.boot_len (pa_cons (pv 0) pa_nil)) pe_int (nomark _)))))) (pss_one (ps_ret pe_bl)) pss_nil)
      (pss_cons (ps_set (i := 3) sc_word_fits.nd rfl (by first | exact Or.inl rfl | exact Or.inr rfl) (pe_ix (r := rIxT K) ix_tup (pv 0) pe_int (fun _ _ => rfl)))
      (pss_cons (ps_if (PW.pt (pw_or (pt_not (pt_val (pe_callB (r := rIsi K) call_isi (by rfl) T.z_isinstance (by decide +kernel) (pa_cons (pv 3) (pa_cons (pe_bltn (v := .ty "str") (by rfl) T.z_str (by decide +kernel) rfl) pa_nil))))) (pw_or1 (pt_cmpR (r := Ov.rInKd K (He.ga K "ARMS") true) (op_notIn_kd D_ARMS) (pv 3) (pe_glob (v := .ref (He.ga K "ARMS")) (by rfl) T.g_ARMS rfl) (by first | rfl | exact nomark _))))) (pss_one (ps_ret pe_bl)) pss_nil)
      (Evl.pss_cut (ps_if (pt_cmpR (r := Ov.rInKd K (He.ga K "GIVEN") true) (op_notIn_kd D_GIVEN) (pv 3) (pe_glob (v := .ref (He.ga K "GIVEN")) (by rfl) T.g_GIVEN rfl) (by first | rfl | exact nomark _)) (pss_one (ps_set (i := 4) sc_word_fits.nd rfl (by first | exact Or.inl rfl | exact Or.inr rfl) pe_int)) (pss_one (ps_if (PW.pt (pw_and (pt_cmpR op_gt (pe_callB (r := Evl.rLenS K) call_len_seq (by rfl) T.z_len PySem.boot_len (pa_cons (pv 0) pa_nil)) pe_int (nomark _)) (pw_and1 (pt_val (pe_call G_given_fits (hr.mono (by omega)) (by rfl) T.g_given_fits T.kp_given_fits T.b_given_fits .nil pass0 (pa_cons (pe_ix (r := rIxD K w) ix_kdict (pe_glob (v := .ref (He.ga K "GIVEN")) (by rfl) T.g_GIVEN rfl) (pv 3) (fun _ _ => rfl)) (pa_cons (pe_ix (r := rIxT K) ix_tup (pv 0) pe_int (fun _ _ => rfl)) (pa_cons (pv 1) pa_nil)))))))) (pss_one (ps_set (i := 4) sc_word_fits.nd rfl (by first | exact Or.inl rfl | exact Or.inr rfl) pe_int)) (pss_one (ps_ret pe_bl)))))
      (pss_cons (ps_if (pt_cmpR op_ne (pe_callB (r := Evl.rLenS K) call_len_seq (by rfl) T.z_len PySem.boot_len (pa_cons (pv 0) pa_nil)) (pe_op op_add (pv 4) (pe_ix (r := rIxD K w) ix_kdict (pe_glob (v := .ref (He.ga K "ARMS")) (by rfl) T.g_ARMS rfl) (pv 3) (fun _ _ => rfl))) (nomark _)) (pss_one (ps_ret pe_bl)) pss_nil)
      (pss_one (ps_ret (pe_callB (r := rAll K) (cr_all rfl) (by rfl) T.z_all (by decide +kernel) (pa_cons (pe_lc (own := [("arm", 5)]) rfl sc_word_fits.nd (Ov.pi_tupK (K := K) rfl (pe_call G_arms_of (hr.mono (by omega)) (by rfl) T.g_arms_of T.kp_arms_of T.b_arms_of .nil pass0 (pa_cons (pv 0) pa_nil))) (blkOk_by (own := [("arm", 5)]) (N := ["word", "functions", "around", "name", "ahead", "arm"]) (sc := defScope s_word_fits) (by decide +kernel)) (fun _ _ _ _ _ => (pg_name (i := 5) sc_word_fits.nd rfl (by first | exact Or.inl rfl | exact Or.inr rfl))) (fun _ _ _ _ _ => pts_nil) (fun _ _ _ _ _ => (pe_call G_word_fits (hr.mono (by omega)) (by rfl) T.g_word_fits T.kp_word_fits T.b_word_fits .nil pass0 (pa_cons (pv 5) (pa_cons (pv 1) (pa_cons (pe_op op_add (pv 2) pe_int) pa_nil)))))) pa_nil))))))))), ?_⟩
  have e6 : decide ((6 : Int) < r) = false := decide_eq_false (by omega)
  have hn : (.str o.name :: (o.pre g ++ vs) : List V).length = 1 + (o.pre g).length + o.arity := by rw [List.length_cons, List.length_append, hlen, h1]; omega
  have l0 : decide (V.int (((.str o.name :: (o.pre g ++ vs) : List V).length : Nat) : Int) = V.int 0) = false := decide_eq_false fun z => by
    have z1 := V.int.inj z
    rw [hn] at z1
    omega
  refine ⟨_, rfl, r, 6, rfl, rfl, _, rfl, ?_⟩
  rw [e6]
  refine iteF ⟨_, rfl, _, .ty "tuple", .type "tuple", .type "tuple", true, rfl, .ty _, .base (.tup ha), k_tuple_tuple, true, rfl, ?_⟩
  refine iteF ⟨_, rfl, a, _, rfl, .inr (SqT.of ha), rfl, _, rfl, ?_⟩
  rw [l0]
  refine iteF ?_
  refine ⟨_, rfl, a, _, 0, .str o.name, rfl, rfl, SqT.of ha, atI_nat (j := 0) rfl, ?_⟩
  refine ⟨_, rfl, .str o.name, .ty "str", .type "str", .type "str", true, rfl, .ty _, .base (.str _), k_str_str, true, rfl, ?_⟩
  refine iteF ⟨_, rfl, o.name, ra, rfl, rfl, ra1, _, rfl, ?_⟩
  rw [ra2]
  refine iteF ?_
  have epre : (o.pre g).length = if o.gives then 1 else 0 := by
    unfold Op.pre
    split <;> rfl
  refine ⟨fun σ' H' => σ' = [some (.ref a), some (.int (n : Int)), some (.int r), some (.str o.name), some (.int ((1 + (o.pre g).length : Nat) : Int)), none] ∧ H' = H, ?_, ?_⟩
  · refine ⟨_, rfl, o.name, rg, rfl, rfl, rg1, _, rfl, ?_⟩
    show if (!rg.isSome) = true then _ else _
    rw [rg2]
    cases hg : o.gives with
    | false =>
      refine ⟨?_, rfl⟩
      rw [epre, hg]
      rfl
    | true =>
      have egp : o.pre g = [.int g] := by unfold Op.pre; rw [hg]; rfl
      have l1 : decide ((1 : Int) < (((.str o.name :: (o.pre g ++ vs) : List V).length : Nat) : Int)) = true := decide_eq_true (by rw [hn, egp, List.length_singleton]; omega)
      refine ⟨_, rfl, a, _, rfl, .inr (SqT.of ha), _, 1, rfl, rfl, _, rfl, ?_⟩
      show if decide ((1 : Int) < (((.str o.name :: (o.pre g ++ vs) : List V).length : Nat) : Int)) = true then _ else _
      rw [l1]
      refine ⟨_, rfl, _, o.name, .str (gword o), rfl, rfl, given_at T o hg, _, rfl, a, _, 1, .int g, rfl, rfl, SqT.of ha, atI_nat (j := 1) (by rw [egp]; rfl), _, rfl, o, g, n, rfl, hg, h2, true, rfl, ?_⟩
      refine ⟨?_, rfl⟩
      rw [epre, hg]
      rfl
  rintro σ1 H1 ⟨rfl, rfl⟩
  have lne : (!decide (V.int (((.str o.name :: (o.pre g ++ vs) : List V).length : Nat) : Int) = V.int (((1 + (o.pre g).length : Nat) : Int) + (o.arity : Int)))) = false := by
    rw [decide_eq_true (congrArg V.int (by rw [hn]; omega))]
    rfl
  refine ⟨_, rfl, a, _, rfl, .inr (SqT.of ha), _, rfl, _, rfl, _, o.name, _, rfl, rfl, arms_at T o, _, _, rfl, rfl, rfl, _, rfl, ?_⟩
  rw [lne]
  refine iteF ?_
  refine ⟨_, rfl, a, o, g, vs, rfl, ⟨ha, hlen.trans h1⟩, fun p hp => ⟨p, rfl, ⟨_, SqT.of upd_same⟩, fun D hD => ?_⟩⟩
  have npD : p ≠ D := ne_of_none upd_same hD
  have sp := Same.new (o := .tup vs) hp
  refine lc_tupY (K := K) (a := p) (xs := vs) (fun i H' => Same H1 H' ∧ H' p = some (.tup vs) ∧ H' D = some (.lst ((List.replicate i true).map V.bl))) ⟨sp.trans (Same.new hD), by rw [upd_ne npD, upd_same], upd_same⟩ (fun i H' _ e => SqT.of e.2.1) ?_ ?_
  · rintro i x H2 hi ⟨s2, p2, e2⟩
    obtain ⟨u, hu, hxu⟩ := WsAt.get hs hi
    have hiv := (List.getElem?_eq_some_iff.mp hi).1
    have hv3 : vs.length ≤ 3 := by rw [hlen, h1]; cases o <;> decide
    have hD1 : H1 D = none := Same.free sp hD
    refine ⟨rfl, _, rfl, _, rfl, _, rfl, r, 1, rfl, rfl, x, n, u, r + 1, rfl, hxu.keep (Keep.same s2), h3 u (List.mem_of_getElem? hu), by omega, by omega, fun H3 s3 => ⟨_, s3 _ _ e2, sm _ (by rw [List.length_map, List.length_replicate]; omega), Ov.Same.updn (s2.trans s3) hD1, by rw [upd_ne npD]; exact s3 _ _ p2, ?_⟩⟩
    rw [upd_same, List.replicate_succ', List.map_append]
    rfl
  · rintro H2 ⟨s2, p2, e2⟩
    refine ⟨D, _, rfl, SqL.of e2, ?_⟩
    have eall : (List.replicate vs.length true).all id = true := by simp
    show Q (.bl ((List.replicate vs.length true).all id)) H2
    rw [eall]
    exact q H2 s2
theorem ok_word_fits (T : Txt w K mg) : ∀ d : Nat, FnOk P w K mg base CX0 (d + 2) (He.ga K "word_fits") (fdOf K d_word_fits) ["word", "functions", "around"] (spWordFits d)
  | 0 => fn0 fun vs H Q E ⟨_, _, _, _, _, _, h, _⟩ => nomatch h
  | d + 1 => ok_word_fitsS T (ok_word_fits T d)
theorem sc_function_fits : FnScope ["function", "functions", "size", "body"] ["function", "functions"] (defScope s_function_fits) := ⟨rfl, rfl, rfl, by decide +kernel, rfl, by decide +kernel, by decide +kernel⟩
-- 0 function, 1 functions, 2 size, 3 body
theorem ok_function_fits (T : Txt w K mg) : FnOk P w K mg base CX0 10 (He.ga K "function_fits") (fdOf K d_function_fits) ["function", "functions"] spFunctionFits := by
  have G_between := ok_between (P := P) (base := base) T
  have G_word_fits := ok_word_fits (P := P) (base := base) T 7
  have G_words_of := ok_words_of (P := P) (base := base) T
  refine T.F_function_fits.ok sc_function_fits (fun vs H Q E h => ?_) (fun cdv A outer s H vs Q E hr h => ?_)
  · obtain ⟨v, n, f, rfl, _⟩ := h
    rfl
  obtain ⟨v, n, f, rfl, ⟨b, bv, rfl, hb, hw⟩, ⟨f1, f8, fk, fz⟩, q⟩ := h
  refine ⟨_, PSs.nox (pss_cons (ps_if (PW.pt (pw_or (pt_not (pt_val (pe_callB (r := rIsi K) call_isi (by rfl) T.z_isinstance (by decide +kernel) (pa_cons (pv 0) (pa_cons (pe_bltn (v := .ty "tuple") (by rfl) T.z_tuple (by decide +kernel) rfl) pa_nil))))) (pw_or1 (pt_cmpR op_ne (pe_callB (r := Evl.rLenS K) call_len_seq (by rfl) T.z_len PySem.boot_len (pa_cons (pv 0) pa_nil)) pe_int (nomark _))))) (pss_one (ps_ret pe_bl)) pss_nil)
      (pss_cons (ps_asg (pv 0) (Ov.pg_tupK (K := K) (n := 2) rfl rfl (pgs_cons (pg_name (i := 2) sc_function_fits.nd rfl (by first | exact Or.inl rfl | exact Or.inr rfl)) (pgs_cons (pg_name (i := 3) sc_function_fits.nd rfl (by first | exact Or.inl rfl | exact Or.inr rfl)) pgs_nil))))
      (pss_cons (ps_if (PW.pt (pw_or (pt_not (pt_val (pe_call G_between (hr.mono (by omega)) (by rfl) T.g_between T.kp_between T.b_between .nil pass0 (pa_cons (pv 2) (pa_cons pe_int (pa_cons (pe_glob (v := .int 8) (by rfl) T.i_MOST_CELLS.choose_spec ⟨_, rfl⟩) pa_nil)))))) (pw_or1 (pt_not (pt_val (pe_call G_word_fits (hr.mono (by omega)) (by rfl) T.g_word_fits T.kp_word_fits T.b_word_fits .nil pass0 (pa_cons (pv 3) (pa_cons (pv 1) (pa_cons pe_int pa_nil))))))))) (pss_one (ps_ret pe_bl)) pss_nil)
      (pss_one (ps_ret (pe_cmpR op_le (pe_callB (r := Evl.rLenS K) call_len_seq (by rfl) T.z_len PySem.boot_len (pa_cons (pe_call G_words_of (hr.mono (by omega)) (by rfl) T.g_words_of T.kp_words_of T.b_words_of .nil pass0 (pa_cons (pv 3) pa_nil)) pa_nil)) (pe_glob (v := .int 40) (by rfl) T.i_MOST_WORDS.choose_spec ⟨_, rfl⟩) (nomark _))))))), ?_⟩
  refine ⟨_, rfl, _, .ty "tuple", .type "tuple", .type "tuple", true, rfl, .ty _, .base (.tup hb), k_tuple_tuple, true, rfl, ?_⟩
  refine iteF ⟨_, rfl, b, _, rfl, .inr (SqT.of hb), rfl, _, rfl, iteNS rfl ?_⟩
  refine ⟨_, rfl, b, _, rfl, SqT.of hb, rfl, _, _, rfl, _, _, rfl, rfl, ?_⟩
  refine ⟨_, rfl, f.1, 1, 8, rfl, _, rfl, ?_⟩
  rw [decide_eq_true (show (1 : Int) ≤ f.1 ∧ f.1 ≤ 8 from ⟨f1, f8⟩)]
  refine iteF ⟨_, rfl, _, rfl, bv, n, f.2, 0, rfl, hw, fk, by omega, by decide, fun H1 s1 => ⟨true, rfl, iteF ?_⟩⟩
  have hw1 := hw.keep (Keep.same s1)
  refine ⟨_, rfl, bv, n, f.2, rfl, hw1, fk, by omega, fun H2 p ys s2 hp he hr2 => ⟨p, ys, rfl, .inl (SqL.of he), _, 40, rfl, rfl, ?_⟩⟩
  have hl := Paired.length hr2
  rw [W.rows_len] at hl
  have e : decide ((ys.length : Int) ≤ 40) = true := decide_eq_true (by omega)
  show Q (.bl (decide ((ys.length : Int) ≤ 40))) H2
  rw [e]
  exact q H2 (s1.trans s2)
theorem sc_check_program : FnScope ["program", "number", "function"] ["program"] (defScope s_check_program) := ⟨rfl, rfl, rfl, by decide +kernel, rfl, by decide +kernel, by decide +kernel⟩
-- 0 program, 1 number, 2 function
theorem ok_check_program (T : Txt w K mg) : FnOk P w K mg base CX0 11 (He.ga K "check_program") (fdOf K d_check_program) ["program"] spCheckProgram := by
  have G_function_fits := ok_function_fits (P := P) (base := base) T
  refine T.F_check_program.ok sc_check_program (fun vs H Q E h => ?_) (fun cdv A outer s H vs Q E hr h => ?_)
  · obtain ⟨v, p, rfl, _⟩ := h
    rfl
  obtain ⟨v, p, rfl, ⟨a, vs, rfl, ha, hf⟩, ok, q⟩ := h
  have hl := Paired.length hf
  have l1 := ok.l1
  have l8 := ok.l8
  refine ⟨_, PSs.nox (pss_cons (ps_if (pt_cmpR op_eq (pe_callB (r := Evl.rLenS K) call_len_seq (by rfl) T.z_len PySem.boot_len (pa_cons (pv 0) pa_nil)) pe_int (nomark _)) (pss_one ps_never) pss_nil)
      (pss_one (ps_for PassesOwn.never rfl (Ov.pi_en (K := K) .t rfl (by rfl) T.z_enumerate (pa_cons (pv 0) pa_nil)) (Ov.pg_tupK (K := K) (n := 2) rfl rfl (pgs_cons (pg_name (i := 1) sc_check_program.nd rfl (by first | exact Or.inl rfl | exact Or.inr rfl)) (pgs_cons (pg_name (i := 2) sc_check_program.nd rfl (by first | exact Or.inl rfl | exact Or.inr rfl)) pgs_nil))) (pss_one (ps_if (PW.pt (pw_or (pt_cmpR op_ge (pv 1) (pe_glob (v := .int 8) (by rfl) T.i_MOST_FUNCTIONS.choose_spec ⟨_, rfl⟩) (nomark _)) (pw_or1 (pt_not (pt_val (pe_call G_function_fits (hr.mono (by omega)) (by rfl) T.g_function_fits T.kp_function_fits T.b_function_fits .nil pass0 (pa_cons (pv 2) (pa_cons (pe_callB (r := Evl.rLenS K) call_len_seq (by rfl) T.z_len PySem.boot_len (pa_cons (pv 0) pa_nil)) pa_nil)))))))) (pss_one ps_never) pss_nil))))), ?_⟩
  have e0 : decide (V.int ((vs.length : Nat) : Int) = V.int 0) = false := decide_eq_false fun z => by
    have z1 := V.int.inj z
    omega
  refine ⟨_, rfl, a, vs, rfl, .inr (SqT.of ha), rfl, _, rfl, ?_⟩
  rw [e0]
  refine iteF ?_
  refine ⟨_, rfl, a, vs, rfl, SqT.of ha, for_it (walk_en (K := K) (k := .t) (a := a) (xs := vs)) (fun i σ H' => ∃ y1 y2 : Option V, σ = [some (.ref a), y1, y2] ∧ Same H H') ⟨none, none, rfl, Same.refl H⟩ (fun i σ H' _ ⟨_, _, _, s⟩ => SqT.of (s _ _ ha)) ?_ ?_⟩
  · rintro i x σ H1 H2 hi ⟨y1, y2, rfl, s1⟩ ⟨t, x1, x2, rfl, ht, rfl, e1, e2⟩
    have e1' := Option.some.inj e1
    subst e1'
    have s2 := s1.trans (Same.new (o := .tup [.int (i : Nat), x2]) ht)
    obtain ⟨f, hf1, hf2⟩ := Paired.get2 hf e2
    refine ⟨t, _, rfl, SqT.of upd_same, rfl, _, _, rfl, _, _, rfl, rfl, ?_⟩
    have e8 : decide ((8 : Int) ≤ (i : Int)) = false := decide_eq_false (by omega)
    refine ⟨_, rfl, _, 8, rfl, rfl, _, rfl, ?_⟩
    rw [e8]
    refine iteF ?_
    refine ⟨_, rfl, _, rfl, a, vs, rfl, .inr (SqT.of (s2 _ _ ha)), x2, vs.length, f, rfl, hf2.keep (Keep.same s2), by rw [hl]; exact ok.f f (List.mem_of_getElem? hf1), fun H3 s3 => ⟨true, rfl, iteF ?_⟩⟩
    exact ⟨_, _, rfl, s2.trans s3⟩
  · rintro σ H1 ⟨y1, y2, rfl, s1⟩
    exact q H1 s1
end
end K07

namespace K07
open PySem PySem.Spec PyProof.Rows L2 Ov
section
variable {P : Program} {w : World} {K : PySem.W.Frag} {mg : Str → Option Value} {base : Heap}
theorem sc_check_function : FnScope ["function", "functions"] ["function", "functions"] (defScope s_check_function) := ⟨rfl, rfl, rfl, by decide +kernel, rfl, by decide +kernel, by decide +kernel⟩
-- 0 function, 1 functions
theorem ok_check_function (T : Txt w K mg) : FnOk P w K mg base CX0 2 (He.ga K "check_function") (fdOf K d_check_function) ["function", "functions"] spCheckFunction := by
  have G_between := ok_between (P := P) (base := base) T
  refine T.F_check_function.ok sc_check_function (fun vs H Q E h => ?_) (fun cdv A outer s H vs Q E hr h => ?_)
  · obtain ⟨f, n, rfl, _⟩ := h
    rfl
  obtain ⟨f, n, rfl, hlt, q⟩ := h
  refine ⟨_, PSs.nox (pss_one (ps_if (pt_not (pt_val (pe_call G_between (hr.mono (by omega)) (by rfl) T.g_between T.kp_between T.b_between .nil pass0 (pa_cons (pv 0) (pa_cons pe_int (pa_cons (pe_op op_sub (pv 1) pe_int) pa_nil)))))) (pss_one ps_never) pss_nil)), ?_⟩
  refine ⟨_, rfl, _, rfl, _, 1, rfl, rfl, f, 0, _, rfl, _, rfl, ?_⟩
  rw [decide_eq_true (show (0 : Int) ≤ (f : Int) ∧ (f : Int) ≤ (n : Int) - 1 from ⟨by omega, by omega⟩)]
  exact iteF q
end
end K07

namespace K07
open PySem PySem.Spec PyProof.Rows L2 Ov
section
variable {P : Program} {w : World} {K : PySem.W.Frag} {mg : Str → Option Value} {base : Heap}
theorem sc_rises : FnScope ["row", "low", "high"] ["row"] (defScope s_rises) := ⟨rfl, rfl, rfl, by decide +kernel, rfl, by decide +kernel, by decide +kernel⟩
-- 0 row, 1 low, 2 high
theorem ok_rises (T : Txt w K mg) : FnOk P w K mg base CX0 1 (He.ga K "rises") (fdOf K d_rises) ["row"] spRises := by
  refine T.F_rises.ok sc_rises (fun vs H Q E h => ?_) (fun cdv A outer s H vs Q E hr h => ?_)
  · obtain ⟨a, ns, rfl, _⟩ := h
    rfl
  obtain ⟨a, ns, rfl, ha, hp, hl, q⟩ := h
  have hn : ns.length - 1 = min (nV ns).length ((nV ns).drop 1).length := by rw [List.length_drop, nV_len]; omega
  have up : ∀ (i : Nat) (x y : V), (nV ns)[i]? = some x → ((nV ns).drop 1)[i]? = some y → ∃ u v : Nat, x = .int (u : Int) ∧ y = .int (v : Int) ∧ u < v := fun i x y hx hy => by
    rw [List.getElem?_drop] at hy
    obtain ⟨u, hu, rfl⟩ := nV_int hx
    obtain ⟨v, hv, rfl⟩ := nV_int hy
    obtain ⟨h1, e1⟩ := List.getElem?_eq_some_iff.mp hu
    obtain ⟨h2, e2⟩ := List.getElem?_eq_some_iff.mp hv
    have z := List.pairwise_iff_getElem.mp hp i (1 + i) h1 h2 (by omega)
    rw [e1, e2] at z
    exact ⟨u, v, rfl, rfl, z⟩
  rcases ha with ha | ⟨ha, hne⟩
  · refine ⟨_, PSs.nox (pss_one (ps_ret (pe_callB (r := rAll K) (cr_all rfl) (by rfl) T.z_all (by decide +kernel) (pa_cons (pe_lc (own := [("low", 1), ("high", 2)]) rfl sc_rises.nd (Ov.pi_zp (K := K) .l .l rfl (by rfl) T.z_zip (pa_cons (pv 0) (pa_cons (pe_slice (r := rSlL K) sl_list (pv 0) (po_some pe_int) po_none) pa_nil))) (blkOk_by (own := [("low", 1), ("high", 2)]) (N := ["row", "low", "high"]) (sc := defScope s_rises) (by decide +kernel)) (fun _ _ _ _ _ => (Ov.pg_tupK (K := K) (n := 2) rfl rfl (pgs_cons (pg_name (i := 1) sc_rises.nd rfl (by first | exact Or.inl rfl | exact Or.inr rfl)) (pgs_cons (pg_name (i := 2) sc_rises.nd rfl (by first | exact Or.inl rfl | exact Or.inr rfl)) pgs_nil)))) (fun _ _ _ _ _ => pts_nil) (fun _ _ _ _ _ => (pe_cmpR op_lt (pv 1) (pv 2) (nomark _)))) pa_nil)))), ?_⟩
    refine ⟨_, rfl, _, rfl, 1, rfl, a, nV ns, rfl, SqL.of ha, fun c hc => ?_⟩
    have s1 := Same.new (o := .lst (cutV (nV ns) (some 1) none)) hc
    refine ⟨a, c, nV ns, _, rfl, SqL.of (s1 _ _ ha), SqL.of upd_same, fun D hD => ?_⟩
    have ncD : c ≠ D := ne_of_none upd_same hD
    have fD := Same.free s1 hD
    have ecut : cutV (nV ns) (some 1) none = (nV ns).drop 1 := by
      cases ns with
      | nil => rfl
      | cons x r => exact cut_from _ 1 (by rw [nV_len]; exact Nat.succ_le_succ (Nat.zero_le _))
    rw [ecut] at hD s1 ⊢
    refine lc_itY (walk_zp (K := K) (k := .l) (m := .l) (a := a) (b := c) hn) (fun i H' => Same H H' ∧ H' c = some (.lst ((nV ns).drop 1)) ∧ H' D = some (.lst ((List.replicate i true).map V.bl))) ⟨s1.trans (Same.new hD), by rw [upd_ne ncD, upd_same], upd_same⟩ (fun i H' _ e => ⟨SqL.of (e.1 _ _ ha), SqL.of e.2.1⟩) ?_ ?_
    · rintro i z H1 H2 hi ⟨s2, c2, e2⟩ ⟨t, x, y, rfl, ht, rfl, hx, hy⟩
      obtain ⟨u, v, rfl, rfl, lt⟩ := up i x y hx hy
      have s3 := Same.new (o := .tup [.int (u : Int), .int (v : Int)]) ht
      refine ⟨t, _, rfl, SqT.of upd_same, rfl, _, _, rfl, _, _, rfl, rfl, rfl, _, rfl, _, rfl, _, _, rfl, rfl, _, s3 _ _ e2, sm _ (by rw [List.length_map, List.length_replicate]; omega), Ov.Same.updn (s2.trans s3) fD, by rw [upd_ne ncD]; exact s3 _ _ c2, ?_⟩
      have elt : decide (((u : Nat) : Int) < (v : Int)) = true := decide_eq_true (by omega)
      show upd _ D (.lst ((List.replicate i true).map V.bl ++ [.bl (decide (((u : Nat) : Int) < (v : Int)))])) D = _
      rw [upd_same, elt, rep_snoc]
    · rintro H1 ⟨s2, c2, e2⟩
      refine ⟨D, _, rfl, SqL.of e2, ?_⟩
      show Q (.bl ((List.replicate (ns.length - 1) true).all id)) H1
      rw [rep_all]
      exact q H1 s2
  · 
    refine ⟨_, PSs.nox (pss_one (ps_ret (pe_callB (r := rAll K) (cr_all rfl) (by rfl) T.z_all (by decide +kernel) (pa_cons (pe_lc (own := [("low", 1), ("high", 2)]) rfl sc_rises.nd (Ov.pi_zp (K := K) .t .t rfl (by rfl) T.z_zip (pa_cons (pv 0) (pa_cons (pe_slice (r := rSlA K) sl_tupA (pv 0) (po_some pe_int) po_none) pa_nil))) (blkOk_by (own := [("low", 1), ("high", 2)]) (N := ["row", "low", "high"]) (sc := defScope s_rises) (by decide +kernel)) (fun _ _ _ _ _ => (Ov.pg_tupK (K := K) (n := 2) rfl rfl (pgs_cons (pg_name (i := 1) sc_rises.nd rfl (by first | exact Or.inl rfl | exact Or.inr rfl)) (pgs_cons (pg_name (i := 2) sc_rises.nd rfl (by first | exact Or.inl rfl | exact Or.inr rfl)) pgs_nil)))) (fun _ _ _ _ _ => pts_nil) (fun _ _ _ _ _ => (pe_cmpR op_lt (pv 1) (pv 2) (nomark _)))) pa_nil)))), ?_⟩
    have hns : 1 ≤ ns.length := List.length_pos_iff.mpr hne
    have ecut : cutV (nV ns) (some 1) none = (nV ns).drop 1 := cut_from _ 1 (by rw [nV_len]; exact hns)
    refine ⟨_, rfl, _, rfl, 1, rfl, a, nV ns, rfl, SqT.of ha, fun z => ?_, fun _ c hc => ?_⟩
    · have z1 := z.1
      have z2 : HT.sIx (nV ns).length 0 (some 1) = min 1 (nV ns).length := HT.sIx_nat _ 0 1
      rw [nV_len] at z1 z2
      omega
    have s1 := Same.new (o := .tup (cutV (nV ns) (some 1) none)) hc
    refine ⟨a, c, nV ns, _, rfl, SqT.of (s1 _ _ ha), SqT.of upd_same, fun D hD => ?_⟩
    have ncD : c ≠ D := ne_of_none upd_same hD
    have fD := Same.free s1 hD
    rw [ecut] at hD s1 ⊢
    refine lc_itY (walk_zp (K := K) (k := .t) (m := .t) (a := a) (b := c) hn) (fun i H' => Same H H' ∧ H' c = some (.tup ((nV ns).drop 1)) ∧ H' D = some (.lst ((List.replicate i true).map V.bl))) ⟨s1.trans (Same.new hD), by rw [upd_ne ncD, upd_same], upd_same⟩ (fun i H' _ e => ⟨SqT.of (e.1 _ _ ha), SqT.of e.2.1⟩) ?_ ?_
    · rintro i z H1 H2 hi ⟨s2, c2, e2⟩ ⟨t, x, y, rfl, ht, rfl, hx, hy⟩
      obtain ⟨u, v, rfl, rfl, lt⟩ := up i x y hx hy
      have s3 := Same.new (o := .tup [.int (u : Int), .int (v : Int)]) ht
      refine ⟨t, _, rfl, SqT.of upd_same, rfl, _, _, rfl, _, _, rfl, rfl, rfl, _, rfl, _, rfl, _, _, rfl, rfl, _, s3 _ _ e2, sm _ (by rw [List.length_map, List.length_replicate]; omega), Ov.Same.updn (s2.trans s3) fD, by rw [upd_ne ncD]; exact s3 _ _ c2, ?_⟩
      have elt : decide (((u : Nat) : Int) < (v : Int)) = true := decide_eq_true (by omega)
      show upd _ D (.lst ((List.replicate i true).map V.bl ++ [.bl (decide (((u : Nat) : Int) < (v : Int)))])) D = _
      rw [upd_same, elt, rep_snoc]
    · rintro H1 ⟨s2, c2, e2⟩
      refine ⟨D, _, rfl, SqL.of e2, ?_⟩
      show Q (.bl ((List.replicate (ns.length - 1) true).all id)) H1
      rw [rep_all]
      exact q H1 s2
theorem sc_part_fits : FnScope ["part", "functions", "function"] ["part", "functions"] (defScope s_part_fits) := ⟨rfl, rfl, rfl, by decide +kernel, rfl, by decide +kernel, by decide +kernel⟩
-- 0 part, 1 functions, 2 function
theorem ok_part_fits (T : Txt w K mg) : FnOk P w K mg base CX0 2 (He.ga K "part_fits") (fdOf K d_part_fits) ["part", "functions"] spPartFits := by
  have G_between := ok_between (P := P) (base := base) T
  have G_rises := ok_rises (P := P) (base := base) T
  refine T.F_part_fits.ok sc_part_fits (fun vs H Q E h => ?_) (fun cdv A outer s H vs Q E hr h => ?_)
  · obtain ⟨v, n, p, rfl, _⟩ := h
    rfl
  obtain ⟨v, n, p, rfl, ⟨b, rfl, hb⟩, hne, hri, hlt, h8, q⟩ := h
  refine ⟨_, PSs.nox (pss_cons (ps_if (PW.pt (pw_or (pt_not (pt_val (pe_callB (r := rIsi K) call_isi (by rfl) T.z_isinstance (by decide +kernel) (pa_cons (pv 0) (pa_cons (pe_bltn (v := .ty "tuple") (by rfl) T.z_tuple (by decide +kernel) rfl) pa_nil))))) (pw_or1 (pt_cmpR op_eq (pe_callB (r := Evl.rLenS K) call_len_seq (by rfl) T.z_len PySem.boot_len (pa_cons (pv 0) pa_nil)) pe_int (nomark _))))) (pss_one (ps_ret pe_bl)) pss_nil)
      (pss_one (ps_ret (pe_and (pe_callB (r := rAll K) (cr_all rfl) (by rfl) T.z_all (by decide +kernel) (pa_cons (pe_lc (own := [("function", 2)]) rfl sc_part_fits.nd (Ov.pi_tupK (K := K) rfl (pv 0)) (blkOk_by (own := [("function", 2)]) (N := ["part", "functions", "function"]) (sc := defScope s_part_fits) (by decide +kernel)) (fun _ _ _ _ _ => (pg_name (i := 2) sc_part_fits.nd rfl (by first | exact Or.inl rfl | exact Or.inr rfl))) (fun _ _ _ _ _ => pts_nil) (fun _ _ _ _ _ => (pe_call G_between (hr.mono (by omega)) (by rfl) T.g_between T.kp_between T.b_between .nil pass0 (pa_cons (pv 2) (pa_cons pe_int (pa_cons (pe_op op_sub (pv 1) pe_int) pa_nil)))))) pa_nil)) (pe_one (pe_call G_rises (hr.mono (by omega)) (by rfl) T.g_rises T.kp_rises T.b_rises .nil pass0 (pa_cons (pv 0) pa_nil))))))), ?_⟩
  have e0 : decide (V.int (((nV p).length : Nat) : Int) = V.int 0) = false := decide_eq_false fun z => by
    have z1 := V.int.inj z
    have := List.length_pos_iff.mpr hne
    rw [nV_len] at z1
    omega
  refine ⟨_, rfl, _, .ty "tuple", .type "tuple", .type "tuple", true, rfl, .ty _, .base (.tup hb), k_tuple_tuple, true, rfl, iteF ⟨_, rfl, b, _, rfl, .inr (SqT.of hb), rfl, _, rfl, ?_⟩⟩
  rw [e0]
  refine iteF ⟨_, rfl, b, rfl, ⟨_, SqT.of hb⟩, fun D hD => ?_⟩
  refine lc_tupY (K := K) (a := b) (xs := nV p) (fun i H' => Same H H' ∧ H' D = some (.lst ((List.replicate i true).map V.bl))) ⟨Same.new hD, upd_same⟩ (fun i H' _ e => SqT.of (e.1 _ _ hb)) ?_ ?_
  · rintro i x H1 hi ⟨s1, e1⟩
    obtain ⟨y, hy, rfl⟩ := nV_int hi
    have hyn := hlt y (List.mem_of_getElem? hy)
    have hil := (List.getElem?_eq_some_iff.mp hy).1
    refine ⟨rfl, _, rfl, _, rfl, _, 1, rfl, rfl, (y : Int), 0, _, rfl, _, e1, sm _ (by rw [List.length_map, List.length_replicate]; omega), Ov.Same.updn s1 hD, ?_⟩
    rw [upd_same, decide_eq_true (show (0 : Int) ≤ (y : Int) ∧ (y : Int) ≤ (n : Int) - 1 from ⟨by omega, by omega⟩), rep_snoc]
  · rintro H1 ⟨s1, e1⟩
    refine ⟨D, _, rfl, SqL.of e1, _, rfl, ?_⟩
    show if (List.replicate (nV p).length true).all id = true then _ else _
    rw [rep_all]
    refine iteT ?_
    exact ⟨_, rfl, b, p, rfl, .inr ⟨s1 _ _ hb, hne⟩, hri, by omega, fun H2 s2 => q H2 (s1.trans s2)⟩
end
end K07

namespace K07
open PySem PySem.Spec PyProof.Rows L2 Ov
section
variable {P : Program} {w : World} {K : PySem.W.Frag} {mg : Str → Option Value} {base : Heap}
theorem sc_parts_fit : FnScope ["parts", "functions", "held", "part", "function"] ["parts", "functions"] (defScope s_parts_fit) := ⟨rfl, rfl, rfl, by decide +kernel, rfl, by decide +kernel, by decide +kernel⟩
-- 0 parts, 1 functions, 2 held, 3 part, 4 function
theorem ok_parts_fit (T : Txt w K mg) : FnOk P w K mg base CX0 3 (He.ga K "parts_fit") (fdOf K d_parts_fit) ["parts", "functions"] spPartsFit := by
  have G_part_fits := ok_part_fits (P := P) (base := base) T
  have G_rises := ok_rises (P := P) (base := base) T
  refine T.F_parts_fit.ok sc_parts_fit (fun vs H Q E h => ?_) (fun cdv A outer s H vs Q E hr h => ?_)
  · obtain ⟨a, n, us, ps, rfl, _⟩ := h
    rfl
  obtain ⟨a, n, us, ps, rfl, ha, hps, pi, n8, q⟩ := h
  have hl := Paired.length hps
  have hc := pi.count
  refine ⟨_, PSs.nox (pss_cons (ps_if (PW.pt (pw_or (pt_not (pt_val (pe_callB (r := rIsi K) call_isi (by rfl) T.z_isinstance (by decide +kernel) (pa_cons (pv 0) (pa_cons (pe_bltn (v := .ty "tuple") (by rfl) T.z_tuple (by decide +kernel) rfl) pa_nil))))) (pw_or1 (pt_not (pt_val (pe_callB (r := rAll K) (cr_all rfl) (by rfl) T.z_all (by decide +kernel) (pa_cons (pe_lc (own := [("part", 3)]) rfl sc_parts_fit.nd (Ov.pi_tupK (K := K) rfl (pv 0)) (blkOk_by (own := [("part", 3)]) (N := ["parts", "functions", "held", "part", "function"]) (sc := defScope s_parts_fit) (by decide +kernel)) (fun _ _ _ _ _ => (pg_name (i := 3) sc_parts_fit.nd rfl (by first | exact Or.inl rfl | exact Or.inr rfl))) (fun _ _ _ _ _ => pts_nil) (fun _ _ _ _ _ => (pe_call G_part_fits (hr.mono (by omega)) (by rfl) T.g_part_fits T.kp_part_fits T.b_part_fits .nil pass0 (pa_cons (pv 3) (pa_cons (pv 1) pa_nil))))) pa_nil))))))) (pss_one (ps_ret pe_bl)) pss_nil)
      (pss_cons (ps_setLc2 (i := 2) (own := [("part", 3), ("function", 4)]) (vs1 := [4]) rfl sc_parts_fit.nd rfl rfl (sw_true rfl rfl rfl (by decide +kernel)) (Ov.pi_tupK (K := K) rfl (pv 0)) (blkOk_by (own := [("part", 3), ("function", 4)]) (N := ["parts", "functions", "held", "part", "function"]) (sc := defScope s_parts_fit) (by decide +kernel)) (by decide) (fun _ _ _ _ _ => (pg_name (i := 3) sc_parts_fit.nd rfl (by first | exact Or.inl rfl | exact Or.inr rfl))) (fun _ _ _ _ _ => pts_nil) (fun _ _ _ _ _ => (Ov.pi_tupK (K := K) rfl (pv 3))) (fun _ _ _ _ _ => (pg_name (i := 4) sc_parts_fit.nd rfl (by first | exact Or.inl rfl | exact Or.inr rfl))) (fun _ _ _ _ _ => pts_nil) (fun _ _ _ _ _ => (pv 4)))
      (pss_one (ps_ret (pe_and (pe_call G_rises (hr.mono (by omega)) (by rfl) T.g_rises T.kp_rises T.b_rises .nil pass0 (pa_cons (pe_lc (own := [("part", 3)]) rfl sc_parts_fit.nd (Ov.pi_tupK (K := K) rfl (pv 0)) (blkOk_by (own := [("part", 3)]) (N := ["parts", "functions", "held", "part", "function"]) (sc := defScope s_parts_fit) (by decide +kernel)) (fun _ _ _ _ _ => (pg_name (i := 3) sc_parts_fit.nd rfl (by first | exact Or.inl rfl | exact Or.inr rfl))) (fun _ _ _ _ _ => pts_nil) (fun _ _ _ _ _ => (pe_ix (r := rIxT K) ix_tup (pv 3) pe_int (fun _ _ => rfl)))) pa_nil)) (pe_one (pe_cmpR (r := rEqD K) (op_eqD hr.units) (pe_callB (r := rSorted K) cr_sorted (by rfl) T.z_sorted (by decide +kernel) (pa_cons (pv 2) pa_nil)) (pe_listRg rfl (by rfl) T.z_list (prg_1 (by rfl) T.z_range (pv 1))) (nomark _)))))))), ?_⟩
  refine ⟨_, rfl, _, .ty "tuple", .type "tuple", .type "tuple", true, rfl, .ty _, .base (.tup ha), k_tuple_tuple, true, rfl, iteF ⟨_, rfl, a, rfl, ⟨_, SqT.of ha⟩, fun D hD => ?_⟩⟩
  refine lc_tupY (K := K) (a := a) (xs := us) (fun i H' => Same H H' ∧ H' D = some (.lst ((List.replicate i true).map V.bl))) ⟨Same.new hD, upd_same⟩ (fun i H' _ e => SqT.of (e.1 _ _ ha)) ?_ ?_
  · rintro i x H1 hi ⟨s1, e1⟩
    obtain ⟨p, hp, hx⟩ := Paired.get2 hps hi
    have hm := List.mem_of_getElem? hp
    have hil := (List.getElem?_eq_some_iff.mp hi).1
    refine ⟨rfl, _, rfl, _, rfl, x, n, p, rfl, hx.keep (Keep.same s1), pi.ne p hm, pi.rise p hm, fun y hy => pi.lt hm hy, by have := pi.plen hm; omega, fun H2 s2 => ⟨_, s2 _ _ e1, sm _ (by rw [List.length_map, List.length_replicate]; omega), Ov.Same.updn (s1.trans s2) hD, ?_⟩⟩
    rw [upd_same, rep_snoc]
  rintro H1 ⟨s1, e1⟩
  refine ⟨D, _, rfl, SqL.of e1, _, rfl, ?_⟩
  show if (!(List.replicate us.length true).all id) = true then _ else _
  rw [rep_all]
  refine iteF ?_
  -- held
  refine ⟨_, rfl, a, rfl, ⟨_, SqT.of (s1 _ _ ha)⟩, fun B hB => ?_⟩
  refine lc2_out (walk_tup (K := K) (a := a) (xs := us)) (fun i H' => Same H1 H' ∧ H' B = some (.lst (nV (ps.take i).flatten))) ⟨Same.new hB, upd_same⟩ (fun i H' _ e => SqT.of (e.1 _ _ (s1 _ _ ha))) ?_ ?_
  · rintro i x H2 H3 hi ⟨s2, e2⟩ ⟨rfl, hx⟩
    obtain ⟨p, hp, ⟨b, rfl, hb⟩⟩ := Paired.get2 hps hx
    have hm := List.mem_of_getElem? hp
    have hb2 := s2 _ _ (s1 _ _ hb)
    refine ⟨rfl, _, rfl, b, rfl, ⟨_, SqT.of hb2⟩, ?_⟩
    refine lc2_in (walk_tup (K := K) (a := b) (xs := nV p)) (fun j H' => Same H1 H' ∧ H' B = some (.lst (nV ((ps.take i).flatten ++ p.take j)))) ⟨s2, by rw [List.take_zero, List.append_nil]; exact e2⟩ (fun j H' _ e => SqT.of (e.1 _ _ (s1 _ _ hb))) ?_ ?_
    · rintro j y H4 H5 hj ⟨s4, e4⟩ ⟨rfl, hy⟩
      obtain ⟨z, hz, rfl⟩ := nV_int hy
      have hpl := pi.plen hm
      have hfl : (ps.take i).flatten.length ≤ n := by
        have z1 : ps.flatten.length = n := by rw [pi.perm.length_eq, List.length_range]
        have z2 : ps.flatten = (ps.take i).flatten ++ (ps.drop i).flatten := by rw [← List.flatten_append, List.take_append_drop]
        rw [z2, List.length_append] at z1
        omega
      refine ⟨rfl, _, rfl, _, e4, sm _ (by rw [nV_len, List.length_append, List.length_take]; omega), Ov.Same.updn s4 hB, ?_⟩
      rw [upd_same, List.take_add_one, hz, ← List.append_assoc]
      exact congrArg (fun l => some (HO.lst l)) (nV_app _ z).symm
    · rintro H4 ⟨s4, e4⟩
      refine ⟨s4, ?_⟩
      rw [nV_len, List.take_length] at e4
      rw [e4, List.take_add_one, hp]
      simp
  rintro H2 ⟨s2, e2⟩
  rw [hl, List.take_length] at e2
  have s02 := s1.trans s2
  -- rises of the firsts
  refine ⟨_, rfl, a, rfl, ⟨_, SqT.of (s02 _ _ ha)⟩, fun C hC => ?_⟩
  refine lc_tupY (K := K) (a := a) (xs := us) (fun i H' => Same H2 H' ∧ H' C = some (.lst (nV ((ps.take i).map (·.headD 0))))) ⟨Same.new hC, upd_same⟩ (fun i H' _ e => SqT.of (e.1 _ _ (s02 _ _ ha))) ?_ ?_
  · rintro i x H3 hi ⟨s3, e3⟩
    obtain ⟨p, hp, ⟨b, rfl, hb⟩⟩ := Paired.get2 hps hi
    have hm := List.mem_of_getElem? hp
    have hil := (List.getElem?_eq_some_iff.mp hi).1
    have hne := pi.ne p hm
    have h0 : (nV p)[0]? = some (.int ((p.headD 0 : Nat) : Int)) := by
      cases p with
      | nil => exact absurd rfl hne
      | cons x r => rfl
    refine ⟨rfl, _, rfl, b, _, 0, _, rfl, rfl, SqT.of (s3 _ _ (s02 _ _ hb)), atI_nat (j := 0) h0, _, e3, sm _ (by rw [nV_len, List.length_map, List.length_take]; omega), Ov.Same.updn s3 hC, ?_⟩
    rw [upd_same, List.take_add_one, hp, List.map_append]
    exact congrArg (fun l => some (HO.lst l)) (nV_app _ _).symm
  rintro H3 ⟨s3, e3⟩
  rw [hl, List.take_length] at e3
  refine ⟨C, _, rfl, .inl e3, pi.firsts, by rw [List.length_map]; omega, fun H4 s4 => ⟨true, rfl, iteT ?_⟩⟩
  -- sorted(held) == list(range(functions))
  have e4 := s4 _ _ (s3 _ _ e2)
  rw [nV_ints] at e4
  have hfl : ps.flatten.length = n := by rw [pi.perm.length_eq, List.length_range]
  refine ⟨_, rfl, B, _, rfl, SqL.of e4, by rw [List.length_map, hfl]; omega, fun ns p hperm hpw hp => ?_⟩
  have ens := pi.sorted hperm hpw
  refine ⟨_, rfl, _, rfl, RgOk.of_le (by omega) (by omega) (by omega) (by omega), fun r hr2 => ?_⟩
  have npr : p ≠ r := ne_of_none upd_same hr2
  have er : rgV 0 (n : Int) = ns.map V.int := by rw [rgV_nV, nV_ints, ens]
  have s5 := (Same.new (o := .lst (ns.map V.int)) hp).trans (Same.new (o := .lst (rgV 0 (n : Int))) hr2)
  refine ⟨.list (ns.map PyData.int), .list (ns.map PyData.int), .lst (SqL.of (by rw [upd_ne npr]; exact upd_same)) (dpInts ns), .lst (xs := ns.map V.int) (SqL.of (by rw [upd_same, er])) (dpInts ns), intsShaped ns, intsShaped ns, ?_⟩
  rw [eqvInts]
  exact q _ (s02.trans (s3.trans (s4.trans s5)))
theorem sc_has_end : FnScope ["stands", "part", "under", "_"] ["stands", "part"] (defScope s_has_end) := ⟨rfl, rfl, rfl, by decide +kernel, rfl, by decide +kernel, by decide +kernel⟩
-- 0 stands, 1 part, 2 under, 3 _
theorem ok_has_end (T : Txt w K mg) : FnOk P w K mg base CX0 1 (He.ga K "has_end") (fdOf K d_has_end) ["stands", "part"] spHasEnd := by
  refine T.F_has_end.ok sc_has_end (fun vs H Q E h => ?_) (fun cdv A outer s H vs Q E hr h => ?_)
  · obtain ⟨a, st, x, od, rfl, _⟩ := h
    rfl
  obtain ⟨a, st, x, od, rfl, ha, hod, sinv, hx, h8, q⟩ := h
  have hol : od.length = st.length := by rw [hod.length_eq, List.length_range]
  refine ⟨_, PSs.nox (pss_cons (ps_set (i := 2) sc_has_end.nd rfl (by first | exact Or.inl rfl | exact Or.inr rfl) (pv 1))
      (pss_cons (ps_for PassesOwn.never rfl (pi_range1 (by rfl) T.z_range (pa_cons (pe_callB (r := Evl.rLenS K) call_len_seq (by rfl) T.z_len PySem.boot_len (pa_cons (pv 0) pa_nil)) pa_nil)) (pg_name (i := 3) sc_has_end.nd rfl (by first | exact Or.inl rfl | exact Or.inr rfl)) (pss_one (ps_if (pt_cmpR op_ne (pv 2) (pe_glob (v := .int (-1)) (by rfl) T.i_NO_PART.choose_spec ⟨_, rfl⟩) (nomark _)) (pss_one (ps_set (i := 2) sc_has_end.nd rfl (by first | exact Or.inl rfl | exact Or.inr rfl) (pe_ix (r := rIxT K) ix_tup (pv 0) (pv 2) (fun _ _ => rfl)))) pss_nil)))
      (pss_one (ps_ret (pe_cmpR op_eq (pv 2) (pe_glob (v := .int (-1)) (by rfl) T.i_NO_PART.choose_spec ⟨_, rfl⟩) (nomark _)))))), ?_⟩
  refine ⟨_, rfl, _, rfl, a, _, rfl, .inr (SqT.of ha), _, rfl, by omega, by rw [List.length_map]; omega, for_range (lo := 0) (n := (((st.map V.int).length : Nat) : Int).toNat) (fun i σ H' => ∃ (z : Int) (y3 : Option V), σ = [some (.ref a), some (.int (x : Int)), some (.int z), y3] ∧ H' = H ∧ (z = -1 ∨ ∃ t y : Nat, od[t]? = some y ∧ z = (y : Int) ∧ t + i < st.length)) ⟨x, none, rfl, rfl, ?_⟩ ?_ ?_⟩
  · obtain ⟨t, ht⟩ := List.mem_iff_getElem?.mp (hod.mem_iff.mpr (List.mem_range.mpr hx))
    exact .inr ⟨t, x, ht, rfl, by have := (List.getElem?_eq_some_iff.mp ht).1; omega⟩
  · rintro i σ H1 hi ⟨z, y3, rfl, rfl, hz⟩
    refine ⟨_, rfl, rfl, _, rfl, ?_⟩
    rcases hz with rfl | ⟨t, y, ht, rfl, hti⟩
    · show if (!decide (V.int (-1) = V.int (-1))) = true then _ else _
      rw [decide_eq_true rfl]
      exact ⟨-1, _, rfl, rfl, .inl rfl⟩
    · have ne : decide (V.int (y : Int) = V.int (-1)) = false := decide_eq_false fun e => by
        have := V.int.inj e
        omega
      show if (!decide (V.int (y : Int) = V.int (-1))) = true then _ else _
      rw [ne]
      rcases sinv t y ht with e | ⟨j, u, hj, hu, e⟩
      · exact ⟨_, rfl, _, rfl, a, _, _, .int (-1), rfl, rfl, SqT.of ha, atI_nat (by rw [List.getElem?_map, e]; rfl), -1, _, rfl, rfl, .inl rfl⟩
      · exact ⟨_, rfl, _, rfl, a, _, _, .int ((u : Nat) : Int), rfl, rfl, SqT.of ha, atI_nat (by rw [List.getElem?_map, e]; rfl), _, _, rfl, rfl, .inr ⟨j, u, hu, rfl, by omega⟩⟩
  · rintro σ H1 ⟨z, y3, rfl, rfl, hz⟩
    rcases hz with rfl | ⟨t, y, ht, rfl, hti⟩
    · refine ⟨_, rfl, rfl, ?_⟩
      show Q (.bl (decide (V.int (-1) = V.int (-1)))) H1
      rw [decide_eq_true rfl]
      exact q
    · rw [Int.toNat_natCast, List.length_map] at hti
      omega
theorem sc_stands_fit : FnScope ["stands", "parts", "stand", "part"] ["stands", "parts"] (defScope s_stands_fit) := ⟨rfl, rfl, rfl, by decide +kernel, rfl, by decide +kernel, by decide +kernel⟩
-- 0 stands, 1 parts, 2 stand, 3 part
theorem ok_stands_fit (T : Txt w K mg) : FnOk P w K mg base CX0 2 (He.ga K "stands_fit") (fdOf K d_stands_fit) ["stands", "parts"] spStandsFit := by
  have G_between := ok_between (P := P) (base := base) T
  have G_has_end := ok_has_end (P := P) (base := base) T
  refine T.F_stands_fit.ok sc_stands_fit (fun vs H Q E h => ?_) (fun cdv A outer s H vs Q E hr h => ?_)
  · obtain ⟨a, st, m, od, rfl, _⟩ := h
    rfl
  obtain ⟨a, st, m, od, rfl, ha, hm, hod, sinv, h8, q⟩ := h
  have hol : od.length = m := by rw [hod.length_eq, List.length_range]
  have hlm : (st.map V.int).length = m := by rw [List.length_map, hm]
  refine ⟨_, PSs.nox (pss_cons (ps_if (PW.pt (pw_or (pt_not (pt_val (pe_callB (r := rIsi K) call_isi (by rfl) T.z_isinstance (by decide +kernel) (pa_cons (pv 0) (pa_cons (pe_bltn (v := .ty "tuple") (by rfl) T.z_tuple (by decide +kernel) rfl) pa_nil))))) (pw_or1 (pt_cmpR op_ne (pe_callB (r := Evl.rLenS K) call_len_seq (by rfl) T.z_len PySem.boot_len (pa_cons (pv 0) pa_nil)) (pv 1) (nomark _))))) (pss_one (ps_ret pe_bl)) pss_nil)
      (pss_cons (ps_if (pt_not (pt_val (pe_callB (r := rAll K) (cr_all rfl) (by rfl) T.z_all (by decide +kernel) (pa_cons (pe_lc (own := [("stand", 2)]) rfl sc_stands_fit.nd (Ov.pi_tupK (K := K) rfl (pv 0)) (blkOk_by (own := [("stand", 2)]) (N := ["stands", "parts", "stand", "part"]) (sc := defScope s_stands_fit) (by decide +kernel)) (fun _ _ _ _ _ => (pg_name (i := 2) sc_stands_fit.nd rfl (by first | exact Or.inl rfl | exact Or.inr rfl))) (fun _ _ _ _ _ => pts_nil) (fun _ _ _ _ _ => (pe_call G_between (hr.mono (by omega)) (by rfl) T.g_between T.kp_between T.b_between .nil pass0 (pa_cons (pv 2) (pa_cons (pe_glob (v := .int (-1)) (by rfl) T.i_NO_PART.choose_spec ⟨_, rfl⟩) (pa_cons (pe_op op_sub (pv 1) pe_int) pa_nil)))))) pa_nil)))) (pss_one (ps_ret pe_bl)) pss_nil)
      (pss_one (ps_ret (pe_callB (r := rAll K) (cr_all rfl) (by rfl) T.z_all (by decide +kernel) (pa_cons (pe_lc (own := [("part", 3)]) rfl sc_stands_fit.nd (pi_range1 (by rfl) T.z_range (pa_cons (pv 1) pa_nil)) (blkOk_by (own := [("part", 3)]) (N := ["stands", "parts", "stand", "part"]) (sc := defScope s_stands_fit) (by decide +kernel)) (fun _ _ _ _ _ => (pg_name (i := 3) sc_stands_fit.nd rfl (by first | exact Or.inl rfl | exact Or.inr rfl))) (fun _ _ _ _ _ => pts_nil) (fun _ _ _ _ _ => (pe_call G_has_end (hr.mono (by omega)) (by rfl) T.g_has_end T.kp_has_end T.b_has_end .nil pass0 (pa_cons (pv 0) (pa_cons (pv 3) pa_nil))))) pa_nil)))))), ?_⟩
  have enm : (!decide (V.int (((st.map V.int).length : Nat) : Int) = V.int (m : Int))) = false := by rw [hlm, decide_eq_true rfl]; rfl
  refine ⟨_, rfl, _, .ty "tuple", .type "tuple", .type "tuple", true, rfl, .ty _, .base (.tup ha), k_tuple_tuple, true, rfl, iteF ⟨_, rfl, a, _, rfl, .inr (SqT.of ha), _, rfl, rfl, _, rfl, ?_⟩⟩
  rw [enm]
  refine iteF ⟨_, rfl, a, rfl, ⟨_, SqT.of ha⟩, fun D hD => ?_⟩
  refine lc_tupY (K := K) (a := a) (xs := st.map V.int) (fun i H' => Same H H' ∧ H' D = some (.lst ((List.replicate i true).map V.bl))) ⟨Same.new hD, upd_same⟩ (fun i H' _ e => SqT.of (e.1 _ _ ha)) ?_ ?_
  · rintro i x H1 hi ⟨s1, e1⟩
    obtain ⟨y, hy, rfl⟩ := ints_int hi
    have hil := (List.getElem?_eq_some_iff.mp hy).1
    have hb : -1 ≤ y ∧ y ≤ (m : Int) - 1 := by
      obtain ⟨t, ht⟩ := List.mem_iff_getElem?.mp (hod.mem_iff.mpr (List.mem_range.mpr (by omega : i < m)))
      rcases sinv t i ht with e | ⟨j, u, hj, hu, e⟩
      · have := Option.some.inj (hy.symm.trans e)
        omega
      · have z1 := Option.some.inj (hy.symm.trans e)
        have z2 := List.mem_range.mp (hod.mem_iff.mp (List.mem_of_getElem? hu))
        omega
    refine ⟨rfl, _, rfl, _, rfl, _, 1, rfl, rfl, y, -1, _, rfl, _, e1, sm _ (by rw [List.length_map, List.length_replicate]; omega), Ov.Same.updn s1 hD, ?_⟩
    rw [upd_same, decide_eq_true hb, rep_snoc]
  rintro H1 ⟨s1, e1⟩
  refine ⟨D, _, rfl, SqL.of e1, true, ?_, iteF ?_⟩
  · show V.bl ((List.replicate (st.map V.int).length true).all id) = V.bl true
    rw [rep_all]
  refine ⟨_, rfl, _, rfl, by omega, by omega, fun B hB => ?_⟩
  refine lc_rangeY (lo := 0) (n := ((m : Nat) : Int).toNat) (fun i H' => Same H1 H' ∧ H' B = some (.lst ((List.replicate i true).map V.bl))) ⟨Same.new hB, upd_same⟩ ?_ ?_
  · rintro i H2 hi ⟨s2, e2⟩
    rw [Int.toNat_natCast] at hi
    refine ⟨rfl, _, rfl, _, rfl, a, st, i, od, ?_, s2 _ _ (s1 _ _ ha), by rw [hm]; exact hod, sinv, by omega, by omega, _, e2, sm _ (by rw [List.length_map, List.length_replicate]; omega), Ov.Same.updn s2 hB, ?_⟩
    · show [V.ref a, V.int (0 + (i : Int))] = _
      rw [Int.zero_add]
    · rw [upd_same, rep_snoc]
  · rintro H2 ⟨s2, e2⟩
    refine ⟨B, _, rfl, SqL.of e2, ?_⟩
    show Q (.bl ((List.replicate ((m : Nat) : Int).toNat true).all id)) H2
    rw [rep_all]
    exact q H2 (s1.trans s2)
theorem sc_check_tree : FnScope ["program", "tree"] ["program", "tree"] (defScope s_check_tree) := ⟨rfl, rfl, rfl, by decide +kernel, rfl, by decide +kernel, by decide +kernel⟩
-- 0 program, 1 tree
theorem ok_check_tree (T : Txt w K mg) : FnOk P w K mg base CX0 12 (He.ga K "check_tree") (fdOf K d_check_tree) ["program", "tree"] spCheckTree := by
  have G_check_program := ok_check_program (P := P) (base := base) T
  have G_parts_fit := ok_parts_fit (P := P) (base := base) T
  have G_stands_fit := ok_stands_fit (P := P) (base := base) T
  refine T.F_check_tree.ok sc_check_tree (fun vs H Q E h => ?_) (fun cdv A outer s H vs Q E hr h => ?_)
  · obtain ⟨v, t, pr, ps, st, rfl, _⟩ := h
    rfl
  obtain ⟨v, t, pr, ps, st, rfl, ⟨hpr, hok, ⟨a, pa, sa, us, rfl, ha, hpa, hus, hsa⟩, htr⟩, q⟩ := h
  obtain ⟨od, hod, sinv⟩ := htr.ord
  have l8 := hok.l8
  have hc := htr.p.count
  refine ⟨_, PSs.nox (pss_cons (ps_expr (pe_call G_check_program (hr.mono (by omega)) (by rfl) T.g_check_program T.kp_check_program T.b_check_program .nil pass0 (pa_cons (pv 0) pa_nil)))
      (pss_cons (ps_if (PW.pt (pw_or (pt_cmpR op_ne (pe_callB (r := Evl.rLenS K) call_len_seq (by rfl) T.z_len PySem.boot_len (pa_cons (pv 1) pa_nil)) pe_int (nomark _)) (pw_or1 (pt_not (pt_val (pe_call G_parts_fit (hr.mono (by omega)) (by rfl) T.g_parts_fit T.kp_parts_fit T.b_parts_fit .nil pass0 (pa_cons (pe_ix (r := rIxT K) ix_tup (pv 1) pe_int (fun _ _ => rfl)) (pa_cons (pe_callB (r := Evl.rLenS K) call_len_seq (by rfl) T.z_len PySem.boot_len (pa_cons (pv 0) pa_nil)) pa_nil)))))))) (pss_one ps_never) pss_nil)
      (pss_one (ps_if (pt_not (pt_val (pe_call G_stands_fit (hr.mono (by omega)) (by rfl) T.g_stands_fit T.kp_stands_fit T.b_stands_fit .nil pass0 (pa_cons (pe_ix (r := rIxT K) ix_tup (pv 1) pe_int (fun _ _ => rfl)) (pa_cons (pe_callB (r := Evl.rLenS K) call_len_seq (by rfl) T.z_len PySem.boot_len (pa_cons (pe_ix (r := rIxT K) ix_tup (pv 1) pe_int (fun _ _ => rfl)) pa_nil)) pa_nil))))) (pss_one ps_never) pss_nil)))), ?_⟩
  refine ⟨_, rfl, v, pr, rfl, hpr, hok, fun H1 s1 => ?_⟩
  obtain ⟨pp, pvs, rfl, hpp, hpf⟩ := hpr.keep (Keep.same s1)
  have hpl := Paired.length hpf
  have hul := Paired.length hus
  refine ⟨_, rfl, a, _, rfl, .inr (SqT.of (s1 _ _ ha)), rfl, _, rfl, iteNS rfl ?_⟩
  refine ⟨_, rfl, a, _, 0, _, rfl, rfl, SqT.of (s1 _ _ ha), atI_nat (j := 0) rfl, _, rfl, pp, _, rfl, .inr (SqT.of hpp), pa, pr.length, us, ps, by rw [hpl]; rfl, s1 _ _ hpa, L2.Paired.mapP hus fun _ _ z => z.keep (Keep.same s1), htr.p, l8, fun H2 s2 => ⟨true, rfl, iteF ?_⟩⟩
  have s02 := s1.trans s2
  refine ⟨_, rfl, a, _, 1, _, rfl, rfl, SqT.of (s02 _ _ ha), atI_nat (j := 1) rfl, _, rfl, a, _, 0, _, rfl, rfl, SqT.of (s02 _ _ ha), atI_nat (j := 0) rfl, pa, us, rfl, .inr (SqT.of (s02 _ _ hpa)), ?_⟩
  exact ⟨sa, st, us.length, od, rfl, s02 _ _ hsa, by rw [htr.len, hul], by rw [hul]; exact hod, sinv, by omega, fun H3 s3 => ⟨true, rfl, iteF (q H3 (s02.trans s3))⟩⟩
end
end K07

namespace K07
open PySem PySem.Spec PyProof.Rows L2 Ov
section
variable {P : Program} {w : World} {K : PySem.W.Frag} {mg : Str → Option Value} {base : Heap}
theorem sc_parts_below : FnScope ["stands", "part", "below", "under"] ["stands", "part"] (defScope s_parts_below) := ⟨rfl, rfl, rfl, by decide +kernel, rfl, by decide +kernel, by decide +kernel⟩
-- 0 stands, 1 part, 2 below, 3 under
theorem ok_parts_below (T : Txt w K mg) : FnOk P w K mg base CX0 1 (He.ga K "parts_below") (fdOf K d_parts_below) ["stands", "part"] spPartsBelow := by
  refine T.F_parts_below.ok sc_parts_below (fun vs H Q E h => ?_) (fun cdv A outer s H vs Q E hr h => ?_)
  · obtain ⟨a, st, x, l, rfl, _⟩ := h
    rfl
  obtain ⟨a, st, x, l, rfl, ha, hd, hl, q⟩ := h
  refine ⟨_, PSs.nox (pss_cons (ps_set (i := 2) sc_parts_below.nd rfl (by first | exact Or.inl rfl | exact Or.inr rfl) (pe_lst pa_nil))
      (pss_cons (ps_set (i := 3) sc_parts_below.nd rfl (by first | exact Or.inl rfl | exact Or.inr rfl) (pe_ix (r := rIxT K) ix_tup (pv 0) (pv 1) (fun _ _ => rfl)))
      (pss_cons (ps_while PassesOwn.never (pt_cmpR op_ne (pv 3) (pe_glob (v := .int (-1)) (by rfl) T.i_NO_PART.choose_spec ⟨_, rfl⟩) (nomark _)) (pss_cons (ps_expr (Ov.pe_bmK (K := K) rfl PySem.F.plainAttrs_list PySem.F.slot_list_append PySem.F.type_list_append mt_append (pv 2) (pa_cons (pv 3) pa_nil)))
      (pss_one (ps_set (i := 3) sc_parts_below.nd rfl (by first | exact Or.inl rfl | exact Or.inr rfl) (pe_ix (r := rIxT K) ix_tup (pv 0) (pv 3) (fun _ _ => rfl))))))
      (pss_one (ps_ret (Ov.pe_revLK (K := K) rfl (pv 2))))))), ?_⟩
  refine ⟨sml 0, fun D hD => ?_⟩
  have s1 := Same.new (o := .lst []) hD
  obtain ⟨z, hz⟩ := hd.get
  refine ⟨_, rfl, _, rfl, a, _, _, _, rfl, rfl, SqT.of (s1 _ _ ha), atI_nat (by rw [List.getElem?_map, hz]; rfl), ?_⟩
  refine ⟨fun m σ H' => ∃ (c : Nat) (z : Int) (l' acc : List Nat), σ = [some (.ref a), some (.int (x : Int)), some (.ref D), some (.int z)] ∧ Same H H' ∧ H' D = some (.lst (nV acc)) ∧ Down st c l' ∧ st[c]? = some z ∧ l = l' ++ acc.reverse ∧ m = l'.length, ⟨_, x, z, l, [], rfl, s1, upd_same, hd, hz, by rw [List.reverse_nil, List.append_nil], rfl⟩, ?_⟩
  rintro m σ H1 ⟨c, z, l', acc, rfl, s2, e2, d2, hz2, el, rfl⟩
  have hlen : l.length = l'.length + acc.length := by rw [el, List.length_append, List.length_reverse]
  refine ⟨_, rfl, rfl, _, rfl, ?_⟩
  cases d2 with
  | base e =>
    obtain rfl : z = -1 := Option.some.inj (hz2.symm.trans e)
    show if (!decide (V.int (-1) = V.int (-1))) = true then _ else _
    rw [decide_eq_true (rfl : V.int (-1) = V.int (-1))]
    refine iteF ?_
    refine ⟨_, rfl, D, _, rfl, SqL.of e2, fun p hp => ?_⟩
    have er : (nV acc).reverse = nV l := by rw [el]; unfold nV; rw [List.nil_append, List.map_reverse]
    rw [er]
    exact q _ p (s2.trans (Same.new hp)) (Same.free s2 hp) upd_same
  | @step _ y l2 e d3 =>
    obtain rfl : z = (y : Int) := Option.some.inj (hz2.symm.trans e)
    have ne : decide (V.int (y : Int) = V.int (-1)) = false := decide_eq_false fun e => by
      have := V.int.inj e
      omega
    show if (!decide (V.int (y : Int) = V.int (-1))) = true then _ else _
    rw [ne]
    obtain ⟨z3, hz3⟩ := d3.get
    have e1 := s2 _ _ ha
    rw [List.length_append, List.length_singleton] at hlen
    refine iteT ⟨_, fun σ' H' h => h, ?_⟩
    refine ⟨_, rfl, .inl ⟨rfl, _, SqL.of e2⟩, _, rfl, D, _, _, rfl, rfl, e2, sm _ (by rw [nV_len]; omega), ?_⟩
    refine ⟨_, rfl, _, rfl, a, _, _, _, rfl, rfl, SqT.of (Ov.Same.updn s2 hD _ _ ha), atI_nat (by rw [List.getElem?_map, hz3]; rfl), ?_⟩
    refine ⟨l2.length, by rw [List.length_append, List.length_singleton]; omega, y, z3, l2, acc ++ [y], rfl, Ov.Same.updn s2 hD, ?_, d3, hz3, ?_, rfl⟩
    · rw [upd_same, nV_app]
    · rw [el, List.reverse_append, List.append_assoc]
      rfl
theorem sc_size_of : FnScope ["program", "part", "function"] ["program", "part"] (defScope s_size_of) := ⟨rfl, rfl, rfl, by decide +kernel, rfl, by decide +kernel, by decide +kernel⟩
-- 0 program, 1 part, 2 function
theorem ok_size_of (T : Txt w K mg) : FnOk P w K mg base CX0 1 (He.ga K "size_of") (fdOf K d_size_of) ["program", "part"] spSizeOf := by
  refine T.F_size_of.ok sc_size_of (fun vs H Q E h => ?_) (fun cdv A outer s H vs Q E hr h => ?_)
  · obtain ⟨v, u, pr, p, rfl, _⟩ := h
    rfl
  obtain ⟨v, u, pr, p, rfl, ⟨a, vs, rfl, ha, hvs⟩, ⟨b, rfl, hb⟩, hlt, hl, q⟩ := h
  refine ⟨_, PSs.nox (pss_one (ps_ret (pe_callB (r := rSum K) (cr_sum rfl) (by rfl) T.z_sum (by decide +kernel) (pa_cons (pe_lc (own := [("function", 2)]) rfl sc_size_of.nd (Ov.pi_tupK (K := K) rfl (pv 1)) (blkOk_by (own := [("function", 2)]) (N := ["program", "part", "function"]) (sc := defScope s_size_of) (by decide +kernel)) (fun _ _ _ _ _ => (pg_name (i := 2) sc_size_of.nd rfl (by first | exact Or.inl rfl | exact Or.inr rfl))) (fun _ _ _ _ _ => pts_nil) (fun _ _ _ _ _ => (pe_ix (r := rIxT K) ix_tup (pe_ix (r := rIxT K) ix_tup (pv 0) (pv 2) (fun _ _ => rfl)) pe_int (fun _ _ => rfl)))) pa_nil)))), ?_⟩
  refine ⟨_, rfl, b, rfl, ⟨_, SqT.of hb⟩, fun D hD => ?_⟩
  refine lc_tupY (K := K) (a := b) (xs := nV p) (fun i H' => Same H H' ∧ H' D = some (.lst (((p.take i).map (fsz pr)).map V.int))) ⟨Same.new hD, upd_same⟩ (fun i H' _ e => SqT.of (e.1 _ _ hb)) ?_ ?_
  · rintro i x H1 hi ⟨s1, e1⟩
    obtain ⟨y, hy, rfl⟩ := nV_int hi
    have hyl := hlt y (List.mem_of_getElem? hy)
    obtain ⟨f, hf⟩ : ∃ f, pr[y]? = some f := ⟨_, List.getElem?_eq_getElem hyl⟩
    obtain ⟨u, hu, ⟨c, wv, rfl, hc, _⟩⟩ := Paired.got hvs hf
    have efs : fsz pr y = f.1 := by unfold fsz; rw [hf]; rfl
    refine ⟨rfl, _, rfl, _, rfl, a, _, _, _, rfl, rfl, SqT.of (s1 _ _ ha), atI_nat hu, c, _, 0, _, rfl, rfl, SqT.of (s1 _ _ hc), atI_nat (j := 0) rfl, _, e1, sm _ (by rw [List.length_map, List.length_map, List.length_take]; omega), Ov.Same.updn s1 hD, ?_⟩
    rw [upd_same, List.take_add_one, hy, List.map_append, List.map_append]
    show some (HO.lst (_ ++ [V.int f.1])) = some (HO.lst (_ ++ [V.int (fsz pr y)]))
    rw [efs]
  · rintro H1 ⟨s1, e1⟩
    rw [nV_len, List.take_length] at e1
    exact ⟨D, _, rfl, SqL.of e1, q H1 s1⟩
def osc_begins : Scope := { kind := .function, names := [(".0", .local), ("part", .local), ("sum", .globalImplicit), ("parts_below", .globalImplicit), ("sizes", .cell), ("stands", .cell)], isGenerator := false, isCoroutine := false }
theorem sc_begins : FnScope ["program", "tree", "parts", "stands", "sizes", "part", "under"] ["program", "tree"] (defScope s_begins) := ⟨rfl, rfl, rfl, by decide +kernel, rfl, by decide +kernel, by decide +kernel⟩
-- 0 program, 1 tree, 2 parts, 3 stands, 4 sizes, 5 part, 6 under
theorem ok_begins (T : Txt w K mg) : FnOk P w K mg base CX0 2 (He.ga K "begins") (fdOf K d_begins) ["program", "tree"] spBegins := by
  have G_parts_below := ok_parts_below (P := P) (base := base) T
  have G_size_of := ok_size_of (P := P) (base := base) T
  refine T.F_begins.ok sc_begins (fun vs H Q E h => ?_) (fun cdv A outer s H vs Q E hr h => ?_)
  · obtain ⟨v, t, pr, ps, st, dn, rfl, _⟩ := h
    rfl
  obtain ⟨v, t, pr, ps, st, dn, rfl, ⟨hpr, hok, ⟨a, pa, sa, us, rfl, ha, hpa, hus, hsa⟩, htr⟩, hdn, q⟩ := h
  have l8 := hok.l8
  have hc := htr.p.count
  have hul := Paired.length hus
  refine ⟨_, PSs.nox (pss_cons (ps_asg (pv 1) (Ov.pg_tupK (K := K) (n := 2) rfl rfl (pgs_cons (pg_name (i := 2) sc_begins.nd rfl (by first | exact Or.inl rfl | exact Or.inr rfl)) (pgs_cons (pg_name (i := 3) sc_begins.nd rfl (by first | exact Or.inl rfl | exact Or.inr rfl)) pgs_nil))))
      (pss_cons (ps_set (i := 4) sc_begins.nd rfl (by first | exact Or.inl rfl | exact Or.inr rfl) (pe_lc (own := [("part", 5)]) rfl sc_begins.nd (Ov.pi_tupK (K := K) rfl (pv 2)) (by first | exact blkOk_by (own := [("part", 5)]) (N := ["program", "tree", "parts", "stands", "sizes", "part", "under"]) (sc := defScope s_begins) (by decide +kernel) | exact blkOk_by (own := [("part", 5)]) (N := ["program", "tree", "parts", "stands", "sizes", "part", "under"]) (sc := osc_begins) (by decide +kernel)) (fun _ _ _ _ _ => (pg_name (i := 5) sc_begins.nd rfl (by first | exact Or.inl rfl | exact Or.inr rfl))) (fun _ _ _ _ _ => pts_nil) (fun _ _ _ _ _ => (pe_call G_size_of (hr.mono (by omega)) (by rfl) T.g_size_of T.kp_size_of T.b_size_of .nil pass0 (pa_cons (pv 0) (pa_cons (pv 5) pa_nil))))))
      (pss_one (ps_ret (pe_lc (own := [("part", 5)]) rfl sc_begins.nd (pi_range1 (by rfl) T.z_range (pa_cons (pe_callB (r := Evl.rLenS K) call_len_seq (by rfl) T.z_len PySem.boot_len (pa_cons (pv 2) pa_nil)) pa_nil)) (by first | exact blkOk_by (own := [("part", 5)]) (N := ["program", "tree", "parts", "stands", "sizes", "part", "under"]) (sc := defScope s_begins) (by decide +kernel) | exact blkOk_by (own := [("part", 5)]) (N := ["program", "tree", "parts", "stands", "sizes", "part", "under"]) (sc := osc_begins) (by decide +kernel)) (fun _ _ _ _ _ => (pg_name (i := 5) sc_begins.nd rfl (by first | exact Or.inl rfl | exact Or.inr rfl))) (fun _ _ _ _ _ => pts_nil) (fun _ _ _ _ _ => (pe_callB (r := rSum K) (cr_sum rfl) (by rfl) T.z_sum (by decide +kernel) (pa_cons (pe_lc (own := [("under", 6)]) rfl sc_begins.nd (Ov.pi_listK (K := K) rfl (pe_call G_parts_below (hr.mono (by omega)) (by rfl) T.g_parts_below T.kp_parts_below T.b_parts_below .nil pass0 (pa_cons (pv 3) (pa_cons (pv 5) pa_nil)))) (by first | exact blkOk_by (own := [("under", 6)]) (N := ["program", "tree", "parts", "stands", "sizes", "part", "under"]) (sc := defScope s_begins) (by decide +kernel) | exact blkOk_by (own := [("under", 6)]) (N := ["program", "tree", "parts", "stands", "sizes", "part", "under"]) (sc := osc_begins) (by decide +kernel)) (fun _ _ _ _ _ => (pg_name (i := 6) sc_begins.nd rfl (by first | exact Or.inl rfl | exact Or.inr rfl))) (fun _ _ _ _ _ => pts_nil) (fun _ _ _ _ _ => (pe_ix (r := rIxL K) ix_list (pv 4) (pv 6) (fun _ _ => rfl)))) pa_nil)))))))), ?_⟩
  refine ⟨_, rfl, a, _, rfl, SqT.of ha, rfl, _, _, rfl, _, _, rfl, rfl, _, rfl, pa, rfl, ⟨us, SqT.of hpa⟩, fun D hD => ?_⟩
  refine lc_tupY (K := K) (a := pa) (xs := us) (fun i H' => Same H H' ∧ H' D = some (.lst (((ps.take i).map (psz pr)).map V.int))) ⟨Same.new hD, upd_same⟩ (fun i H' _ e => SqT.of (e.1 _ _ hpa)) ?_ ?_
  · rintro i x H1 hi ⟨s1, e1⟩
    obtain ⟨p, hp, hx⟩ := Paired.get2 hus hi
    have hm := List.mem_of_getElem? hp
    have hil := (List.getElem?_eq_some_iff.mp hp).1
    refine ⟨rfl, _, rfl, _, rfl, v, x, pr, p, rfl, hpr.keep (Keep.same s1), hx.keep (Keep.same s1), fun y hy => htr.p.lt hm hy, by have := htr.p.plen hm; omega, fun H2 s2 => ⟨_, s2 _ _ e1, sm _ (by rw [List.length_map, List.length_map, List.length_take]; omega), Ov.Same.updn (s1.trans s2) hD, ?_⟩⟩
    rw [upd_same, List.take_add_one, hp, List.map_append, List.map_append]
    rfl
  rintro H1 ⟨s1, e1⟩
  rw [hul, List.take_length] at e1
  refine ⟨_, rfl, pa, _, rfl, .inr (SqT.of (s1 _ _ hpa)), _, rfl, by omega, by omega, fun B hB => ?_⟩
  refine lc_rangeY (lo := 0) (n := ((us.length : Nat) : Int).toNat) (fun i H' => Same H1 H' ∧ H' B = some (.lst (((List.range i).map (bgn pr ps dn)).map V.int))) ⟨Same.new hB, upd_same⟩ ?_ ?_
  · rintro i H2 hi ⟨s2, e2⟩
    rw [Int.toNat_natCast, hul] at hi
    have sz : ∀ y, y < ps.length → (((ps.map (psz pr)).map V.int))[y]? = some (.int (psz pr (ps[y]?.getD []))) := fun y hy => by
      rw [List.getElem?_map, List.getElem?_map, List.getElem?_eq_getElem hy]
      rfl
    refine ⟨rfl, _, rfl, _, rfl, sa, st, i, dn i, ?_, s2 _ _ (s1 _ _ hsa), hdn.down i hi, by have := hdn.len i hi; omega, fun H3 p s3 hp3 e3 => ?_⟩
    · show [V.ref sa, V.int (0 + (i : Int))] = _
      rw [Int.zero_add]
    refine ⟨p, rfl, ⟨_, SqL.of e3⟩, fun C hC => ?_⟩
    refine lc_listY (K := K) (a := p) (xs := nV (dn i)) (fun j H' => Same H3 H' ∧ H' C = some (.lst ((((dn i).take j).map fun y => psz pr (ps[y]?.getD [])).map V.int))) ⟨Same.new hC, upd_same⟩ (fun j H' _ e => SqL.of (e.1 _ _ e3)) ?_ ?_
    · rintro j x H4 hj ⟨s4, e4⟩
      obtain ⟨y, hy, rfl⟩ := nV_int hj
      have hjl := (List.getElem?_eq_some_iff.mp hy).1
      have hdl := hdn.len i hi
      refine ⟨rfl, _, rfl, _, rfl, D, _, _, _, rfl, rfl, SqL.of (s4 _ _ (s3 _ _ (s2 _ _ e1))), atI_nat (sz y (hdn.lt i hi y (List.mem_of_getElem? hy))), _, e4, sm _ (by rw [List.length_map, List.length_map, List.length_take]; omega), Ov.Same.updn s4 hC, ?_⟩
      rw [upd_same, List.take_add_one, hy, List.map_append, List.map_append]
      rfl
    · rintro H4 ⟨s4, e4⟩
      rw [nV_len, List.take_length] at e4
      refine ⟨C, _, rfl, SqL.of e4, _, s4 _ _ (s3 _ _ e2), sm _ (by rw [List.length_map, List.length_map, List.length_range]; omega), Ov.Same.updn (s2.trans (s3.trans s4)) hB, ?_⟩
      rw [upd_same, List.range_succ, List.map_append, List.map_append]
      rfl
  · rintro H2 ⟨s2, e2⟩
    rw [Int.toNat_natCast, hul] at e2
    exact q H2 B (s1.trans s2) (Same.free s1 hB) e2
end
end K07

namespace K07
open PySem PySem.Spec PyProof.Rows L2 Ov
section
variable {P : Program} {w : World} {K : PySem.W.Frag} {mg : Str → Option Value} {base : Heap}
theorem sc_firsts_of : FnScope ["program", "tree", "firsts", "part", "begin", "cell", "function"] ["program", "tree"] (defScope s_firsts_of) := ⟨rfl, rfl, rfl, by decide +kernel, rfl, by decide +kernel, by decide +kernel⟩
-- 0 program, 1 tree, 2 firsts, 3 part, 4 begin, 5 cell, 6 function
theorem ok_firsts_of (T : Txt w K mg) : FnOk P w K mg base CX0 3 (He.ga K "firsts_of") (fdOf K d_firsts_of) ["program", "tree"] spPlaces := by
  have G_begins := ok_begins (P := P) (base := base) T
  refine T.F_firsts_of.ok sc_firsts_of (fun vs H Q E h => ?_) (fun cdv A outer s H vs Q E hr h => ?_)
  · obtain ⟨v, t, pr, ps, st, dn, rfl, _⟩ := h
    rfl
  obtain ⟨v, t, pr, ps, st, dn, rfl, hpre, hdn, q⟩ := h
  refine ⟨_, PSs.nox (pss_cons (ps_set (i := 2) sc_firsts_of.nd rfl (by first | exact Or.inl rfl | exact Or.inr rfl) (pe_op op_rep (pe_lst (pa_cons pe_int pa_nil)) (pe_callB (r := Evl.rLenS K) call_len_seq (by rfl) T.z_len PySem.boot_len (pa_cons (pv 0) pa_nil))))
      (pss_cons (ps_for PassesOwn.never rfl (Ov.pi_zp (K := K) .t .l rfl (by rfl) T.z_zip (pa_cons (pe_ix (r := rIxT K) ix_tup (pv 1) pe_int (fun _ _ => rfl)) (pa_cons (pe_call G_begins (hr.mono (by omega)) (by rfl) T.g_begins T.kp_begins T.b_begins .nil pass0 (pa_cons (pv 0) (pa_cons (pv 1) pa_nil))) pa_nil))) (Ov.pg_tupK (K := K) (n := 2) rfl rfl (pgs_cons (pg_name (i := 3) sc_firsts_of.nd rfl (by first | exact Or.inl rfl | exact Or.inr rfl)) (pgs_cons (pg_name (i := 4) sc_firsts_of.nd rfl (by first | exact Or.inl rfl | exact Or.inr rfl)) pgs_nil))) (pss_cons (ps_set (i := 5) sc_firsts_of.nd rfl (by first | exact Or.inl rfl | exact Or.inr rfl) (pv 4))
      (pss_one (ps_for PassesOwn.never rfl (Ov.pi_tupK (K := K) rfl (pv 3)) (pg_name (i := 6) sc_firsts_of.nd rfl (by first | exact Or.inl rfl | exact Or.inr rfl)) (pss_cons (ps_asg (pv 5) (pg_sub (pv 2) (pv 6) set_list))
      (pss_one (ps_aug (i := 5) sc_firsts_of.nd rfl (by first | exact Or.inl rfl | exact Or.inr rfl) (pe_ix (r := rIxT K) ix_tup (pe_ix (r := rIxT K) ix_tup (pv 0) (pv 6) (fun _ _ => rfl)) pe_int (fun _ _ => rfl)) ip_add)))))))
      (pss_one (ps_ret (pv 2))))), ?_⟩
  have hpre1 := hpre
  obtain ⟨⟨pa, vp, rfl, hpa, hpf⟩, hok, ⟨a, qa, sa, us, rfl, ha, hqa, hus, hsa⟩, htr⟩ := hpre1
  have hpl := Paired.length hpf
  have hul := Paired.length hus
  have l8 := hok.l8
  have hc := htr.p.count
  refine ⟨sml 1, fun l2 hl2 => ⟨_, rfl, pa, _, rfl, .inr (SqT.of (Same.new hl2 _ _ hpa)), ?_⟩⟩
  refine ⟨l2, ((vp.length : Nat) : Int), _, rfl, rfl, upd_same, by omega, by omega, sml _ (by rw [List.length_singleton, Int.toNat_natCast]; omega), fun F hF => ?_⟩
  rw [rep_v]
  have s2 : Same H (upd (upd H l2 (.lst [V.int 0])) F (.lst (List.replicate vp.length (V.int 0)))) := (Same.new hl2).trans (Same.new hF)
  have fF := Same.free (Same.new (o := .lst [V.int 0]) hl2) hF
  have hpre2 := hpre.keep (Keep.same s2)
  refine ⟨_, rfl, a, _, 0, _, rfl, rfl, SqT.of (s2 _ _ ha), atI_nat (j := 0) rfl, _, rfl, _, rfl, .ref pa, .ref a, pr, ps, st, dn, rfl, hpre2, hdn, fun H2 p s3 hp2 e2 => ?_⟩
  have nFp : F ≠ p := ne_of_none upd_same hp2
  refine ⟨qa, p, us, _, rfl, SqT.of (s3 _ _ (s2 _ _ hqa)), SqL.of e2, ?_⟩
  refine for_it (walk_zp (K := K) (k := .t) (m := .l) (a := qa) (b := p) (n := ps.length) (by rw [List.length_map, List.length_map, List.length_range]; omega)) (fun i σ' H' => ∃ (y3 y4 y5 y6 : Option V) (cs : List Int), σ' = [some (.ref pa), some (.ref a), some (.ref F), y3, y4, y5, y6] ∧ Same H H' ∧ H' p = some (.lst (((List.range ps.length).map (bgn pr ps dn)).map V.int)) ∧ H' F = some (.lst (cs.map V.int)) ∧ Fill pr.length ps (IsCell pr ps dn) i 0 cs)
    ⟨none, none, none, none, List.replicate vp.length 0, rfl, s2.trans s3, e2, by rw [List.map_replicate]; exact s3 _ _ upd_same, Fill.start (by rw [List.length_replicate, hpl])⟩ (fun i σ' H' _ ⟨_, _, _, _, _, _, z1, z2, _⟩ => ⟨SqT.of (z1 _ _ hqa), SqL.of z2⟩) ?_ ?_
  · rintro i z σ' H3 H4 hi ⟨y3, y4, y5, y6, cs, rfl, s4, ep, eF, fl⟩ ⟨tt, x, y, rfl, ht, rfl, hx, hy⟩
    obtain ⟨pt, hpt, ⟨b, rfl, hb⟩⟩ := Paired.get2 hus hx
    obtain ⟨yb, hyb, rfl⟩ := ints_int hy
    rw [List.getElem?_map, List.getElem?_range hi] at hyb
    obtain rfl := Option.some.inj hyb
    have s5 := Same.new (o := .tup [.ref b, .int (bgn pr ps dn i)]) ht
    have s45 := s4.trans s5
    refine ⟨tt, _, rfl, SqT.of upd_same, rfl, _, _, rfl, _, _, rfl, rfl, _, rfl, _, rfl, b, rfl, ⟨_, SqT.of (s45 _ _ hb)⟩, ?_⟩
    refine for_tup (K := K) (a := b) (xs := nV pt) (fun j σ' H' => ∃ (y6 : Option V) (cs : List Int), σ' = [some (.ref pa), some (.ref a), some (.ref F), some (.ref b), some (.int (bgn pr ps dn i)), some (.int (bgn pr ps dn i + psz pr (pt.take j))), y6] ∧ Same H H' ∧ H' p = some (.lst (((List.range ps.length).map (bgn pr ps dn)).map V.int)) ∧ H' F = some (.lst (cs.map V.int)) ∧ Fill pr.length ps (IsCell pr ps dn) i j cs)
      ⟨y6, cs, ?_, s45, s5 _ _ ep, s5 _ _ eF, fl⟩ (fun j σ' H' _ ⟨_, _, _, z1, _⟩ => SqT.of (z1 _ _ hb)) ?_ ?_
    · have e0 : bgn pr ps dn i + psz pr (pt.take 0) = bgn pr ps dn i := by
        rw [List.take_zero]
        exact Int.add_zero _
      rw [e0]
      rfl
    · rintro j x σ' H5 hj ⟨y6, cs, rfl, s6, ep, eF, fl⟩
      obtain ⟨f, hf, rfl⟩ := nV_int hj
      have hm := List.mem_of_getElem? hpt
      have hfl := htr.p.lt hm (List.mem_of_getElem? hf)
      obtain ⟨g, hg⟩ : ∃ g, pr[f]? = some g := ⟨_, List.getElem?_eq_getElem hfl⟩
      obtain ⟨u, hu, ⟨c, wv, rfl, hc2, _⟩⟩ := Paired.got hpf hg
      have efs : fsz pr f = g.1 := by unfold fsz; rw [hg]; rfl
      have s7 := Ov.Same.updn (o := .lst ((cs.map V.int).set f (.int (bgn pr ps dn i + psz pr (pt.take j))))) s6 fF
      refine ⟨_, rfl, _, rfl, _, rfl, F, _, _, f, rfl, rfl, eF, ixN_nat (by rw [List.length_map, fl.1]; exact hfl), ?_⟩
      refine ⟨_, rfl, _, rfl, _, rfl, pa, _, _, _, rfl, rfl, SqT.of (s7 _ _ hpa), atI_nat hu, c, _, 0, _, rfl, rfl, SqT.of (s7 _ _ hc2), atI_nat (j := 0) rfl, _, _, rfl, rfl, some (.int (f : Int)), cs.set f (bgn pr ps dn i + psz pr (pt.take j)), ?_, s7, ?_, ?_, fl.step htr.p hpt hf ?_⟩
      · have ez : bgn pr ps dn i + psz pr (pt.take j) + g.1 = bgn pr ps dn i + psz pr (pt.take (j + 1)) := by
          rw [List.take_add_one, hf]
          show _ = bgn pr ps dn i + psz pr (pt.take j ++ [f])
          rw [psz_snoc, efs, Int.add_assoc]
        rw [← ez]
        rfl
      · rw [upd_ne nFp.symm]
        exact ep
      · rw [upd_same, List.map_set]
      · unfold IsCell
        rw [hpt]
        rfl
    · rintro σ' H5 ⟨y6, cs, rfl, s6, ep, eF, fl⟩
      rw [nV_len] at fl
      exact ⟨_, _, _, _, cs, rfl, s6, ep, eF, fl.next hpt⟩
  · rintro σ' H3 ⟨y3, y4, y5, y6, cs, rfl, s4, ep, eF, fl⟩
    exact ⟨_, rfl, q H3 F cs (s4) (fF) eF fl.cells⟩
theorem sc_end_of : FnScope ["program", "tree", "part", "begin"] ["program", "tree"] (defScope s_end_of) := ⟨rfl, rfl, rfl, by decide +kernel, rfl, by decide +kernel, by decide +kernel⟩
-- 0 program, 1 tree, 2 part, 3 begin
theorem ok_end_of (T : Txt w K mg) : FnOk P w K mg base CX0 3 (He.ga K "end_of") (fdOf K d_end_of) ["program", "tree"] spWanted := by
  have G_begins := ok_begins (P := P) (base := base) T
  have G_size_of := ok_size_of (P := P) (base := base) T
  refine T.F_end_of.ok sc_end_of (fun vs H Q E h => ?_) (fun cdv A outer s H vs Q E hr h => ?_)
  · obtain ⟨v, t, pr, ps, st, dn, rfl, _⟩ := h
    rfl
  obtain ⟨v, t, pr, ps, st, dn, rfl, hpre, hdn, q⟩ := h
  refine ⟨_, PSs.nox (pss_one (ps_ret (pe_callB (r := rMax K) (cr_max rfl) (by rfl) T.z_max (by decide +kernel) (pa_cons (pe_lc (own := [("part", 2), ("begin", 3)]) rfl sc_end_of.nd (Ov.pi_zp (K := K) .t .l rfl (by rfl) T.z_zip (pa_cons (pe_ix (r := rIxT K) ix_tup (pv 1) pe_int (fun _ _ => rfl)) (pa_cons (pe_call G_begins (hr.mono (by omega)) (by rfl) T.g_begins T.kp_begins T.b_begins .nil pass0 (pa_cons (pv 0) (pa_cons (pv 1) pa_nil))) pa_nil))) (blkOk_by (own := [("part", 2), ("begin", 3)]) (N := ["program", "tree", "part", "begin"]) (sc := defScope s_end_of) (by decide +kernel)) (fun _ _ _ _ _ => (Ov.pg_tupK (K := K) (n := 2) rfl rfl (pgs_cons (pg_name (i := 2) sc_end_of.nd rfl (by first | exact Or.inl rfl | exact Or.inr rfl)) (pgs_cons (pg_name (i := 3) sc_end_of.nd rfl (by first | exact Or.inl rfl | exact Or.inr rfl)) pgs_nil)))) (fun _ _ _ _ _ => pts_nil) (fun _ _ _ _ _ => (pe_op op_add (pv 3) (pe_call G_size_of (hr.mono (by omega)) (by rfl) T.g_size_of T.kp_size_of T.b_size_of .nil pass0 (pa_cons (pv 0) (pa_cons (pv 2) pa_nil)))))) pa_nil)))), ?_⟩
  have hpre1 := hpre
  have hpre1' := hpre1
  obtain ⟨hpr, hok, ⟨a, qa, sa, us, rfl, ha, hqa, hus, hsa⟩, htr⟩ := hpre1'
  have hul := Paired.length hus
  have l8 := hok.l8
  have hc := htr.p.count
  have hc1 := htr.p.pos hok.l1
  refine ⟨_, rfl, a, _, 0, _, rfl, rfl, SqT.of ha, atI_nat (j := 0) rfl, _, rfl, _, rfl, v, .ref a, pr, ps, st, dn, rfl, hpre1, hdn, fun H2 p s2 hp2 e2 => ?_⟩
  refine ⟨qa, p, us, _, rfl, SqT.of (s2 _ _ hqa), SqL.of e2, fun D hD => ?_⟩
  have npD : p ≠ D := ne_of_none e2 hD
  refine lc_itY (walk_zp (K := K) (k := .t) (m := .l) (a := qa) (b := p) (n := ps.length) (by rw [List.length_map, List.length_map, List.length_range]; omega)) (fun i H' => Same H2 H' ∧ H' D = some (.lst ((((List.range i).map fun k => bgn pr ps dn k + psz pr (ps[k]?.getD []))).map V.int)))
    ⟨Same.new hD, upd_same⟩ (fun i H' _ z => ⟨SqT.of (z.1 _ _ (s2 _ _ hqa)), SqL.of (z.1 _ _ e2)⟩) ?_ ?_
  · rintro i z H3 H4 hi ⟨s3, e3⟩ ⟨tt, x, y, rfl, ht, rfl, hx, hy⟩
    obtain ⟨pt, hpt, hxp⟩ := Paired.get2 hus hx
    obtain ⟨yb, hyb, rfl⟩ := ints_int hy
    rw [List.getElem?_map, List.getElem?_range hi] at hyb
    obtain rfl := Option.some.inj hyb
    have hm := List.mem_of_getElem? hpt
    have s5 := Same.new (o := .tup [x, .int (bgn pr ps dn i)]) ht
    have s35 := s2.trans (s3.trans s5)
    refine ⟨tt, _, rfl, SqT.of upd_same, rfl, _, _, rfl, _, _, rfl, rfl, rfl, _, rfl, _, rfl, _, rfl, v, x, pr, pt, rfl, hpr.keep (Keep.same s35), hxp.keep (Keep.same s35), fun f hf => htr.p.lt hm hf, by have := htr.p.plen hm; omega, fun H5 s6 => ?_⟩
    refine ⟨_, _, rfl, rfl, _, s6 _ _ (s5 _ _ e3), sm _ (by rw [List.length_map, List.length_map, List.length_range]; omega), Ov.Same.updn (s3.trans (s5.trans s6)) hD, ?_⟩
    rw [upd_same, List.range_succ, List.map_append, List.map_append]
    show some (HO.lst (_ ++ [V.int (bgn pr ps dn i + psz pr pt)])) = some (HO.lst (_ ++ [V.int (bgn pr ps dn i + psz pr (ps[i]?.getD []))]))
    rw [hpt]
    rfl
  · rintro H3 ⟨s3, e3⟩
    refine ⟨D, _, rfl, SqL.of e3, by rw [List.length_map, List.length_range]; omega, fun m hm hle => q H3 m (s2.trans s3) ⟨?_, fun i pt hpt => ?_⟩⟩
    · obtain ⟨k, hk, rfl⟩ := List.mem_map.mp hm
      have hk := List.mem_range.mp hk
      exact ⟨k, ps[k], List.getElem?_eq_getElem hk, by rw [List.getElem?_eq_getElem hk]; rfl⟩
    · have hi := (List.getElem?_eq_some_iff.mp hpt).1
      refine hle _ (List.mem_map.mpr ⟨i, List.mem_range.mpr hi, ?_⟩)
      rw [hpt]
      rfl
theorem sc_way_of : FnScope ["tree", "function", "parts", "stands", "own", "number", "part"] ["tree", "function"] (defScope s_way_of) := ⟨rfl, rfl, rfl, by decide +kernel, rfl, by decide +kernel, by decide +kernel⟩
-- 0 tree, 1 function, 2 parts, 3 stands, 4 own, 5 number, 6 part
theorem ok_way_of (T : Txt w K mg) : FnOk P w K mg base CX0 2 (He.ga K "way_of") (fdOf K d_way_of) ["tree", "function"] spWayOf := by
  have G_parts_below := ok_parts_below (P := P) (base := base) T
  refine T.F_way_of.ok sc_way_of (fun vs H Q E h => ?_) (fun cdv A outer s H vs Q E hr h => ?_)
  · obtain ⟨t, n, ps, st, dn, f, i, pt, rfl, _⟩ := h
    rfl
  obtain ⟨t, n, ps, st, dn, f, i, pt, rfl, ⟨a, qa, sa, us, rfl, ha, hqa, hus, hsa⟩, htr, l8, hdn, hpt, hf, q⟩ := h
  refine ⟨_, PSs.nox (pss_cons (ps_asg (pv 0) (Ov.pg_tupK (K := K) (n := 2) rfl rfl (pgs_cons (pg_name (i := 2) sc_way_of.nd rfl (by first | exact Or.inl rfl | exact Or.inr rfl)) (pgs_cons (pg_name (i := 3) sc_way_of.nd rfl (by first | exact Or.inl rfl | exact Or.inr rfl)) pgs_nil))))
      (pss_cons (ps_setLc (i := 4) (own := [("number", 5), ("part", 6)]) rfl sc_way_of.nd rfl rfl (sw_true rfl rfl rfl (by decide +kernel)) (Ov.pi_en (K := K) .t rfl (by rfl) T.z_enumerate (pa_cons (pv 2) pa_nil)) (blkOk_by (own := [("number", 5), ("part", 6)]) (N := ["tree", "function", "parts", "stands", "own", "number", "part"]) (sc := defScope s_way_of) (by decide +kernel)) (fun _ _ _ _ _ => (Ov.pg_tupK (K := K) (n := 2) rfl rfl (pgs_cons (pg_name (i := 5) sc_way_of.nd rfl (by first | exact Or.inl rfl | exact Or.inr rfl)) (pgs_cons (pg_name (i := 6) sc_way_of.nd rfl (by first | exact Or.inl rfl | exact Or.inr rfl)) pgs_nil)))) (fun _ _ _ _ _ => (pts_one (pt_cmpR (r := rIn K false) op_in_seq (pv 1) (pv 6) (by first | rfl | exact nomark _)))) (fun _ _ _ _ _ => (pv 5)))
      (pss_one (ps_ret (pe_op op_cat (pe_call G_parts_below (hr.mono (by omega)) (by rfl) T.g_parts_below T.kp_parts_below T.b_parts_below .nil pass0 (pa_cons (pv 3) (pa_cons (pe_ix (r := rIxL K) ix_list (pv 4) pe_int (fun _ _ => rfl)) pa_nil))) (pv 4)))))), ?_⟩
  have hul := Paired.length hus
  have hc := htr.p.count
  have hm := List.mem_of_getElem? hpt
  have hil := (List.getElem?_eq_some_iff.mp hpt).1
  refine ⟨_, rfl, a, _, rfl, SqT.of ha, rfl, _, _, rfl, _, _, rfl, rfl, _, rfl, qa, us, rfl, SqT.of hqa, fun D hD => ?_⟩
  refine lc_it (walk_en (K := K) (k := .t) (a := qa) (xs := us)) (fun k H' => Same H H' ∧ H' D = some (.lst (if i < k then [V.int (i : Int)] else [])))
    ⟨Same.new hD, upd_same⟩ (fun k H' _ z => SqT.of (z.1 _ _ hqa)) ?_ ?_
  · rintro k z H2 H3 hk ⟨s2, e2⟩ ⟨tt, x, y, rfl, ht, rfl, hx, hy⟩
    obtain rfl := Option.some.inj hx
    obtain ⟨pk, hpk, ⟨b, rfl, hb⟩⟩ := Paired.get2 hus hy
    have s3 := Same.new (o := .tup [.int (k : Nat), .ref b]) ht
    have hb3 := s3 _ _ (s2 _ _ hb)
    refine ⟨tt, _, rfl, SqT.of upd_same, rfl, _, _, rfl, _, _, rfl, rfl, rfl, _, rfl, _, rfl, b, _, rfl, .inr (SqT.of hb3), rfl, nVflat pk, ?_⟩
    refine ⟨_, rfl, ?_⟩
    have es := s3 _ _ e2
    by_cases ek : k = i
    · subst ek
      obtain rfl : pk = pt := Option.some.inj (hpk.symm.trans hpt)
      rw [if_neg (Nat.lt_irrefl _)] at es
      show if inV (.int (f : Int)) (nV pk) = true then _ else _
      rw [inVnat, decide_eq_true hf]
      refine iteT ⟨_, rfl, _, es, sm 0, Ov.Same.updn (s2.trans s3) hD, ?_⟩
      rw [upd_same, if_pos (Nat.lt_succ_self _)]
      rfl
    · have nin : ¬ f ∈ pk := fun z => by
        obtain ⟨j1, h1⟩ := List.mem_iff_getElem?.mp z
        obtain ⟨j2, h2⟩ := List.mem_iff_getElem?.mp hf
        exact ek (htr.p.uniq hpk h1 hpt h2).1
      show if inV (.int (f : Int)) (nV pk) = true then _ else _
      rw [inVnat, decide_eq_false nin]
      refine iteF ⟨s2.trans s3, ?_⟩
      rw [es]
      by_cases lt : i < k
      · rw [if_pos lt, if_pos (by omega)]
      · rw [if_neg lt, if_neg (by omega)]
  · rintro H2 ⟨s2, e2⟩
    rw [hul, if_pos hil] at e2
    refine ⟨_, rfl, _, rfl, D, _, 0, _, rfl, rfl, SqL.of e2, atI_nat (j := 0) rfl, sa, st, i, dn i, rfl, s2 _ _ hsa, hdn.down i hil, by have := hdn.len i hil; omega, fun H3 p s3 hp e3 => ?_⟩
    refine ⟨_, rfl, p, D, _, _, rfl, rfl, e3, s3 _ _ e2, sml _ (by rw [nV_len, List.length_singleton]; have := hdn.len i hil; omega), fun l hl => ?_⟩
    refine q _ l (s2.trans (s3.trans (Same.new hl))) (Same.free (s2.trans s3) hl) ?_
    rw [upd_same, nV_app]
end
end K07

namespace K07
open PySem PySem.Spec PyProof.Rows L2 Ov
section
variable {P : Program} {w : World} {K : PySem.W.Frag} {mg : Str → Option Value} {base : Heap}
theorem sc_check_room : FnScope ["room"] ["room"] (defScope s_check_room) := ⟨rfl, rfl, rfl, by decide +kernel, rfl, by decide +kernel, by decide +kernel⟩
-- 0 room
theorem ok_check_room (T : Txt w K mg) : FnOk P w K mg base CX0 2 (He.ga K "check_room") (fdOf K d_check_room) ["room"] spCheckRoom := by
  have G_between := ok_between (P := P) (base := base) T
  refine T.F_check_room.ok sc_check_room (fun vs H Q E h => ?_) (fun cdv A outer s H vs Q E hr h => ?_)
  · obtain ⟨r, rfl, _⟩ := h
    rfl
  obtain ⟨r, rfl, h1, h2, q⟩ := h
  refine ⟨_, PSs.nox (pss_one (ps_if (pt_not (pt_val (pe_call G_between (hr.mono (by omega)) (by rfl) T.g_between T.kp_between T.b_between .nil pass0 (pa_cons (pv 0) (pa_cons pe_int (pa_cons (pe_glob (v := .int 64) (by rfl) T.i_MOST_ROOM.choose_spec ⟨_, rfl⟩) pa_nil)))))) (pss_one ps_never) pss_nil)), ?_⟩
  refine ⟨_, rfl, r, 1, 64, rfl, _, rfl, ?_⟩
  rw [decide_eq_true (show (1 : Int) ≤ r ∧ r ≤ 64 from ⟨h1, h2⟩)]
  exact iteF q
def osc_lay : Scope := { kind := .function, names := [(".0", .local), ("part", .local), ("firsts", .cell), ("program", .cell)], isGenerator := false, isCoroutine := false }
theorem sc_layouts : FnScope ["program", "tree", "firsts", "part", "function", "number"] ["program", "tree"] (defScope s_layouts) := ⟨rfl, rfl, rfl, by decide +kernel, rfl, by decide +kernel, by decide +kernel⟩
-- 0 program, 1 tree, 2 firsts, 3 part, 4 function, 5 number
theorem ok_layouts (T : Txt w K mg) : FnOk P w K mg base CX0 4 (He.ga K "layouts") (fdOf K d_layouts) ["program", "tree"] spLayouts := by
  have G_firsts_of := ok_firsts_of (P := P) (base := base) T
  refine T.F_layouts.ok sc_layouts (fun vs H Q E h => ?_) (fun cdv A outer s H vs Q E hr h => ?_)
  · obtain ⟨v, t, pr, ps, st, dn, rfl, _⟩ := h
    rfl
  obtain ⟨v, t, pr, ps, st, dn, rfl, hpre, hdn, q⟩ := h
  refine ⟨_, PSs.nox (pss_cons (ps_set (i := 2) sc_layouts.nd rfl (by first | exact Or.inl rfl | exact Or.inr rfl) (pe_call G_firsts_of (hr.mono (by omega)) (by rfl) T.g_firsts_of T.kp_firsts_of T.b_firsts_of .nil pass0 (pa_cons (pv 0) (pa_cons (pv 1) pa_nil))))
      (pss_one (ps_ret (pe_lc (own := [("part", 3)]) rfl sc_layouts.nd (Ov.pi_tupK (K := K) rfl (pe_ix (r := rIxT K) ix_tup (pv 1) pe_int (fun _ _ => rfl))) (by first | exact blkOk_by (own := [("part", 3)]) (N := ["program", "tree", "firsts", "part", "function", "number"]) (sc := defScope s_layouts) (by decide +kernel) | exact blkOk_by (own := [("part", 3)]) (N := ["program", "tree", "firsts", "part", "function", "number"]) (sc := osc_lay) (by decide +kernel)) (fun _ _ _ _ _ => (pg_name (i := 3) sc_layouts.nd rfl (by first | exact Or.inl rfl | exact Or.inr rfl))) (fun _ _ _ _ _ => pts_nil) (fun _ _ _ _ _ => (pe_lc2 (own := [("function", 4), ("number", 5)]) (vs1 := [5]) rfl sc_layouts.nd (Ov.pi_tupK (K := K) rfl (pv 3)) (by first | exact blkOk_by (own := [("function", 4), ("number", 5)]) (N := ["program", "tree", "firsts", "part", "function", "number"]) (sc := defScope s_layouts) (by decide +kernel) | exact blkOk_by (own := [("function", 4), ("number", 5)]) (N := ["program", "tree", "firsts", "part", "function", "number"]) (sc := osc_lay) (by decide +kernel)) (by decide) (fun _ _ _ _ _ => (pg_name (i := 4) sc_layouts.nd rfl (by first | exact Or.inl rfl | exact Or.inr rfl))) (fun _ _ _ _ _ => pts_nil) (fun _ _ _ _ _ => (pi_range1 (by rfl) T.z_range (pa_cons (pe_ix (r := rIxT K) ix_tup (pe_ix (r := rIxT K) ix_tup (pv 0) (pv 4) (fun _ _ => rfl)) pe_int (fun _ _ => rfl)) pa_nil))) (fun _ _ _ _ _ => (pg_name (i := 5) sc_layouts.nd rfl (by first | exact Or.inl rfl | exact Or.inr rfl))) (fun _ _ _ _ _ => pts_nil) (fun _ _ _ _ _ => (pe_tup (pa_cons (pe_op op_add (pe_ix (r := rIxL K) ix_list (pv 2) (pv 4) (fun _ _ => rfl)) (pv 5)) (pa_cons (pe_tup (pa_cons (pv 4) (pa_cons (pv 5) pa_nil))) pa_nil)))))))))), ?_⟩
  refine ⟨_, rfl, _, rfl, v, t, pr, ps, st, dn, rfl, hpre, hdn, fun H1 F cs s1 hF eF hcs => ?_⟩
  obtain ⟨⟨pa, vp, rfl, hpa, hpf⟩, hok, ⟨a, qa, sa, us, rfl, ha, hqa, hus, hsa⟩, htr⟩ := hpre.keep (Keep.same s1)
  have hul := Paired.length hus
  have l8 := hok.l8
  have hc := htr.p.count
  refine ⟨_, rfl, a, _, 0, _, rfl, rfl, SqT.of ha, atI_nat (j := 0) rfl, qa, rfl, ⟨us, SqT.of hqa⟩, fun D hD => ?_⟩
  refine lc_tupY (K := K) (a := qa) (xs := us) (fun i H' => ∃ ls : List Addr, Same H1 H' ∧ H' D = some (.lst (ls.map V.ref)) ∧ Paired (fun b l => LayAt H' b l ∧ H b = none ∧ b ≠ D) ls ((ps.take i).map (layP pr cs))) ⟨[], Same.new hD, upd_same, .nil⟩ (fun i H' _ ⟨_, e, _⟩ => SqT.of (e _ _ hqa)) ?_ ?_
  · rintro i x H2 hi ⟨ls, s2, eD, hls⟩
    obtain ⟨p, hp, ⟨b, rfl, hb⟩⟩ := Paired.get2 hus hi
    have hil := (List.getElem?_eq_some_iff.mp hp).1
    have hm := List.mem_of_getElem? hp
    have hbl := Paired.length hls
    rw [List.length_map, List.length_take] at hbl
    refine ⟨rfl, _, rfl, b, rfl, ⟨_, SqT.of (s2 _ _ hb)⟩, fun B hB => ?_⟩
    have nDB : D ≠ B := ne_of_none eD hB
    have cell : ∀ {j f : Nat}, p[j]? = some f → cs[f]? = some (bgn pr ps dn i + psz pr (p.take j)) ∧ (layP pr cs (p.take j)).length ≤ 64 ∧ 0 ≤ bgn pr ps dn i + psz pr (p.take j) := fun {j f} hj => by
      have lj := (List.getElem?_eq_some_iff.mp hj).1
      have z := congrArg List.length (lay_cells hok htr.p hcs hp j (by omega))
      rw [List.length_map, List.length_map, List.length_range] at z
      have y := psz_nn hok (p := p.take j) fun x hx => htr.p.lt hm (List.mem_of_mem_take hx)
      have b0 := bgn_nn hok htr.p (dn := dn) (i := i)
      have := htr.p.plen hm
      have := List.length_take_le j p
      have : (p.take j).length ≤ 8 := by rw [List.length_take]; omega
      exact ⟨hcs.2 i p j f hp hj, by omega, by omega⟩
    refine lc2_out (walk_tup (K := K) (a := b) (xs := nV p)) (fun j H' => ∃ vs, Same H2 H' ∧ H' B = some (.lst vs) ∧ Paired (EntL H') vs (layP pr cs (p.take j))) ⟨[], Same.new hB, upd_same, .nil⟩ (fun j H' _ ⟨_, e, _⟩ => SqT.of (e _ _ (s2 _ _ hb))) ?_ ?_
    · rintro j y H3 H4 hj ⟨vs, s3, eB, hvs⟩ ⟨rfl, hy⟩
      obtain ⟨f, hf, rfl⟩ := nV_int hy
      have hfl := htr.p.lt hm (List.mem_of_getElem? hf)
      obtain ⟨hcf, l64, h0⟩ := cell hf
      obtain ⟨g, hg⟩ : ∃ g, pr[f]? = some g := ⟨_, List.getElem?_eq_getElem hfl⟩
      obtain ⟨u, hu, ⟨c, wv, rfl, hc2, _⟩⟩ := Paired.got hpf hg
      have efs : fsz pr f = g.1 := by unfold fsz; rw [hg]; rfl
      have f8 := fsz_pos hok hfl
      have s23 := s2.trans s3
      refine ⟨rfl, _, rfl, _, rfl, pa, _, _, _, rfl, rfl, SqT.of (s23 _ _ hpa), atI_nat hu, c, _, 0, _, rfl, rfl, SqT.of (s23 _ _ hc2), atI_nat (j := 0) rfl, g.1, rfl, by omega, by omega, ?_⟩
      refine lc2_in (walk_range (lo := 0) (n := g.1.toNat)) (fun n H' => ∃ vs, Same H2 H' ∧ H' B = some (.lst vs) ∧ Paired (EntL H') vs (layP pr cs (p.take j) ++ (List.range n).map fun n => ((cs[f]?.getD 0).toNat + n, (f, n)))) ⟨vs, s3, eB, by rw [List.range_zero, List.map_nil, List.append_nil]; exact hvs⟩ (fun _ _ _ _ => True.intro) ?_ ?_
      · rintro n z H5a H5 hn ⟨ws, s5, eB5, hws⟩ ⟨rfl, hz⟩
        obtain rfl : z = .int (0 + (n : Int)) := hz
        have s25 := s2.trans s5
        have hwl := Paired.length hws
        rw [List.length_append, List.length_map, List.length_range] at hwl
        refine ⟨rfl, _, rfl, _, rfl, F, _, _, _, rfl, rfl, SqL.of (s25 _ _ eF), atI_nat (by rw [List.getElem?_map, hcf]; rfl), _, rfl, _, _, rfl, rfl, _, rfl, _, rfl, sml 2, fun t ht => ?_⟩
        have s6 := Same.new (o := .tup [.int (f : Int), .int (0 + (n : Int))]) ht
        have e6 : upd H5 t (.tup [.int (f : Int), .int (0 + (n : Int))]) t = some (.tup [.int (f : Int), .int (0 + (n : Int))]) := upd_same
        have eB6 := s6 _ _ eB5
        generalize upd H5 t (.tup [.int (f : Int), .int (0 + (n : Int))]) = H6 at s6 e6 eB6 ⊢
        refine ⟨sml 2, fun t2 ht2 => ?_⟩
        have s7 := Same.new (o := .tup [.int (bgn pr ps dn i + psz pr (p.take j) + (0 + (n : Int))), .ref t]) ht2
        have e7 : upd H6 t2 (.tup [.int (bgn pr ps dn i + psz pr (p.take j) + (0 + (n : Int))), .ref t]) t2 = some (.tup [.int (bgn pr ps dn i + psz pr (p.take j) + (0 + (n : Int))), .ref t]) := upd_same
        have eB7 := s7 _ _ eB6
        have e67 := s7 _ _ e6
        generalize upd H6 t2 (.tup [.int (bgn pr ps dn i + psz pr (p.take j) + (0 + (n : Int))), .ref t]) = H7 at s7 e7 eB7 e67 ⊢
        have kB := Keep.updL (ys := ws ++ [.ref t2]) eB7
        refine ⟨_, eB7, sm _ (by omega), ws ++ [.ref t2], Ov.Same.updn (s5.trans (s6.trans s7)) hB, upd_same, ?_⟩
        rw [List.range_succ, List.map_append, ← List.append_assoc]
        refine PySem.Paired.snoc (L2.Paired.mapP hws fun _ _ z => (z.keep (Keep.same (s6.trans s7))).keep kB) ?_
        refine EntL.keep kB ⟨t2, .ref t, rfl, ?_, t, rfl, ?_⟩
        · rw [e7, hcf]
          show some (HO.tup [V.int _, V.ref t]) = some (HO.tup [V.int (((bgn pr ps dn i + psz pr (p.take j)).toNat + n : Nat) : Int), V.ref t])
          rw [show (((bgn pr ps dn i + psz pr (p.take j)).toNat + n : Nat) : Int) = bgn pr ps dn i + psz pr (p.take j) + (0 + (n : Int)) by omega]
        · rw [e67, show (0 : Int) + (n : Int) = (n : Int) by omega]
      · rintro H5 ⟨ws, s5, eB5, hws⟩
        refine ⟨ws, s5, eB5, ?_⟩
        rw [List.take_add_one, hf]
        show Paired _ ws (layP pr cs (p.take j ++ [f]))
        rw [layP_snoc, efs]
        exact hws
    · rintro H3 ⟨vs, s3, eB, hvs⟩
      rw [nV_len, List.take_length] at hvs
      have s23 := s2.trans s3
      have eD3 := s3 _ _ eD
      have kD := Keep.updL (ys := ls.map V.ref ++ [.ref B]) eD3
      refine ⟨_, eD3, sm _ (by rw [List.length_map]; omega), ls ++ [B], Ov.Same.updn s23 hD, by rw [upd_same, List.map_append]; rfl, ?_⟩
      rw [List.take_add_one, hp, List.map_append]
      refine PySem.Paired.snoc (L2.Paired.mapP hls fun b' l' ⟨⟨us', z1, z2⟩, z3, z4⟩ => ⟨⟨us', by rw [upd_ne z4]; exact s3 _ _ z1, L2.Paired.mapP z2 fun _ _ y => (y.keep (Keep.same s3)).keep kD⟩, z3, z4⟩) ?_
      exact ⟨⟨vs, by rw [upd_ne nDB.symm]; exact eB, L2.Paired.mapP hvs fun _ _ y => y.keep kD⟩, Same.free (s1.trans s2) hB, nDB.symm⟩
  · rintro H2 ⟨ls, s2, eD, hls⟩
    rw [hul, List.take_length] at hls
    exact q H2 D ls cs (s1.trans s2) (Same.free s1 hD) eD hcs (L2.Paired.mapP hls fun _ _ z => ⟨z.1, z.2.1⟩)
end
end K07

namespace K07
open PySem PySem.Spec PyProof.Rows L2 Ov
section
variable {P : Program} {w : World} {K : PySem.W.Frag} {mg : Str → Option Value} {base : Heap}
theorem sc_Hall_has_part : FnScope ["self", "part", "cell", "content"] ["self", "part"] (defScope s_Hall_has_part) := ⟨rfl, rfl, rfl, by decide +kernel, rfl, by decide +kernel, by decide +kernel⟩
-- 0 self, 1 part, 2 cell, 3 content
theorem ok_Hall_has_part (T : Txt w K mg) : FnOk P w K mg base CX0 1 (He.ma K (He.ga K "Hall") "has_part") (fdOf K d_Hall_has_part) ["self", "part"] (spHasPart K) := by
  refine T.F_Hall_has_part.ok sc_Hall_has_part (fun vs H Q E h => ?_) (fun cdv A outer s H vs Q E hr h => ?_)
  · obtain ⟨H0, x, wys, L, lc, mv, far, q, rfl, _⟩ := h
    rfl
  obtain ⟨H0, x, wys, L, lc, mv, far, q, rfl, ⟨hat, hok, hle⟩, hq, hQ⟩ := h
  refine ⟨_, PSs.nox (pss_one (ps_ret (pe_callB (r := rAll K) (cr_all rfl) (by rfl) T.z_all (by decide +kernel) (pa_cons (pe_lc (own := [("cell", 2), ("content", 3)]) rfl sc_Hall_has_part.nd (Ov.pi_listK (K := K) rfl (pe_ix (r := rIxL K) ix_list (Ov.pe_fldK (K := K) rfl (pv 0) rfl) (pv 1) (fun _ _ => rfl))) (blkOk_by (own := [("cell", 2), ("content", 3)]) (N := ["self", "part", "cell", "content"]) (sc := defScope s_Hall_has_part) (by decide +kernel)) (fun _ _ _ _ _ => (Ov.pg_tupK (K := K) (n := 2) rfl rfl (pgs_cons (pg_name (i := 2) sc_Hall_has_part.nd rfl (by first | exact Or.inl rfl | exact Or.inr rfl)) (pgs_cons (pg_name (i := 3) sc_Hall_has_part.nd rfl (by first | exact Or.inl rfl | exact Or.inr rfl)) pgs_nil)))) (fun _ _ _ _ _ => pts_nil) (fun _ _ _ _ _ => (pe_cmpR (r := rEqD K) (op_eqD hr.units) (pe_ix (r := rIxL K) ix_list (Ov.pe_fldK (K := K) rfl (pv 0) rfl) (pv 2) (fun _ _ => rfl)) (pv 3) (by first | rfl | exact nomark _)))) pa_nil)))), ?_⟩
  obtain ⟨ls, hlo, hls⟩ := hat.lo
  obtain ⟨us, hly, hus⟩ := hat.ly
  have hul := Paired.length hus
  obtain ⟨l, hl⟩ : ∃ l, L[q]? = some l := ⟨_, List.getElem?_eq_getElem hq⟩
  have el : lyr L q = l := by unfold lyr; rw [hl]; rfl
  obtain ⟨b, hb, ⟨es, hes, hent⟩, _, nbl⟩ := Paired.got hls hl
  have hel := Paired.length hent
  have h64 := hok.ln q
  have hlt := hok.lt q
  rw [el] at h64 hlt hQ
  refine ⟨_, rfl, x.a, _, _, _, _, rfl, hat.ob, T.c_Hall, T.a_Hall_layouts, rfl, _, rfl, x.lo, _, _, _, rfl, rfl, SqL.of hlo, atI_nat (by rw [List.getElem?_map, hb]; rfl), b, rfl, ⟨_, SqL.of hes⟩, fun D hD => ?_⟩
  refine lc_listY (K := K) (a := b) (xs := es) (fun i H' => Same H H' ∧ H' D = some (.lst (((l.take i).map fun e => decide (lc[e.1]? = some (some e.2))).map V.bl))) ⟨Same.new hD, upd_same⟩ (fun i H' _ e => SqL.of (e.1 _ _ hes)) ?_ ?_
  · rintro i y H1 hi ⟨s1, e1⟩
    obtain ⟨e, he, t, u, rfl, ht, hc⟩ := Paired.get2 hent hi
    have hem := hlt e (List.mem_of_getElem? he)
    obtain ⟨c, hcc⟩ : ∃ c, lc[e.1]? = some c := ⟨_, List.getElem?_eq_getElem (by omega)⟩
    obtain ⟨v, hv, hcell⟩ := Paired.got hus hcc
    refine ⟨t, _, rfl, SqT.of (s1 _ _ ht), rfl, _, _, rfl, _, _, rfl, rfl, rfl, _, rfl, x.a, _, _, _, _, rfl, s1 _ _ hat.ob, T.c_Hall, T.a_Hall_lying, rfl, _, rfl, x.ly, _, _, _, rfl, rfl, SqL.of (s1 _ _ hly), atI_nat hv, _, rfl, cellD c, cellD (some e.2), cell_dp (hcell.keep (Keep.same s1)), cell_dp (c := some e.2) (hc.keep (Keep.same s1)), cell_shaped _, cell_shaped _, ?_⟩
    rw [cell_eqv]
    refine ⟨_, e1, sm _ (by rw [List.length_map, List.length_map, List.length_take]; omega), Ov.Same.updn s1 hD, ?_⟩
    rw [upd_same, List.take_add_one, he, List.map_append, List.map_append]
    show some (HO.lst (_ ++ [V.bl (decide (c = some e.2))])) = some (HO.lst (_ ++ [V.bl (decide (lc[e.1]? = some (some e.2)))]))
    rw [hcc]
    congr 4
    refine congrArg V.bl (Bool.eq_iff_iff.mpr ?_)
    rw [decide_eq_true_iff, decide_eq_true_iff]
    exact ⟨fun z => by rw [z], fun z => Option.some.inj z⟩
  · rintro H1 ⟨s1, e1⟩
    rw [hel, List.take_length] at e1
    refine ⟨D, _, rfl, SqL.of e1, ?_⟩
    show Q (.bl ((l.map fun e => decide (lc[e.1]? = some (some e.2))).all id)) H1
    rw [List.all_map]
    exact hQ H1 s1
theorem sc_Hall_bring : FnScope ["self", "part", "cell", "content"] ["self", "part"] (defScope s_Hall_bring) := ⟨rfl, rfl, rfl, by decide +kernel, rfl, by decide +kernel, by decide +kernel⟩
-- 0 self, 1 part, 2 cell, 3 content
theorem ok_Hall_bring (T : Txt w K mg) : FnOk P w K mg base CX0 1 (He.ma K (He.ga K "Hall") "bring") (fdOf K d_Hall_bring) ["self", "part"] (spBring K) := by
  refine T.F_Hall_bring.ok sc_Hall_bring (fun vs H Q E h => ?_) (fun cdv A outer s H vs Q E hr h => ?_)
  · obtain ⟨H0, x, wys, L, lc, mv, far, q, rfl, _⟩ := h
    rfl
  obtain ⟨H0, x, wys, L, lc, mv, far, q, rfl, ⟨hat, hok, hle⟩, hq, hQ⟩ := h
  refine ⟨_, PSs.nox (pss_one (ps_for PassesOwn.never rfl (Ov.pi_listK (K := K) rfl (pe_ix (r := rIxL K) ix_list (Ov.pe_fldK (K := K) rfl (pv 0) rfl) (pv 1) (fun _ _ => rfl))) (Ov.pg_tupK (K := K) (n := 2) rfl rfl (pgs_cons (pg_name (i := 2) sc_Hall_bring.nd rfl (by first | exact Or.inl rfl | exact Or.inr rfl)) (pgs_cons (pg_name (i := 3) sc_Hall_bring.nd rfl (by first | exact Or.inl rfl | exact Or.inr rfl)) pgs_nil))) (pss_cons (ps_asg (pv 3) (pg_sub (Ov.pe_fldK (K := K) rfl (pv 0) rfl) (pv 2) set_list))
      (pss_one (ps_fldaug (pv 0) pe_int in_add))))), ?_⟩
  obtain ⟨ls, hlo, hls⟩ := hat.lo
  obtain ⟨l, hl⟩ : ∃ l, L[q]? = some l := ⟨_, List.getElem?_eq_getElem hq⟩
  have el : lyr L q = l := by unfold lyr; rw [hl]; rfl
  obtain ⟨b, hb, ⟨es, hes, hent⟩, _, nbl⟩ := Paired.got hls hl
  have hel := Paired.length hent
  have hlt := hok.lt q
  rw [el] at hlt hQ
  have nba : b ≠ x.a := ne_of hes hat.ob (by intro z; cases z)
  refine ⟨_, rfl, x.a, _, _, _, _, rfl, hat.ob, T.c_Hall, T.a_Hall_layouts, rfl, _, rfl, x.lo, _, _, _, rfl, rfl, SqL.of hlo, atI_nat (by rw [List.getElem?_map, hb]; rfl), b, rfl, ⟨_, SqL.of hes⟩, ?_⟩
  refine for_list (K := K) (a := b) (xs := es) (fun i σ' H' => ∃ y2 y3 : Option V, σ' = [some (.ref x.a), some (.int (q : Int)), y2, y3] ∧ ButHl x H H' ∧ HallAt K H0 H' x wys L (brg lc (l.take i)) (mv + (i : Int))) ⟨none, none, rfl, ButHl.refl, by rw [List.take_zero]; show HallAt K H0 H x wys L lc (mv + 0); rw [Int.add_zero]; exact hat⟩ (fun i σ' H' _ ⟨_, _, _, z, _⟩ => SqL.of (z _ _ nba nbl hes)) ?_ ?_
  · rintro i y σ' H1 hi ⟨y2, y3, rfl, b1, h1⟩
    obtain ⟨e, he, t, u, rfl, ht, hc⟩ := Paired.get2 hent hi
    have k1 := ButHl.keep hat b1
    have hem := hlt e (List.mem_of_getElem? he)
    obtain ⟨vs, hly, hvs⟩ := h1.ly
    have hvl := Paired.length hvs
    rw [brg_len] at hvl
    refine ⟨t, _, rfl, SqT.of (k1 _ _ ht), rfl, _, _, rfl, _, _, rfl, rfl, _, rfl, _, rfl, x.a, _, _, _, _, rfl, h1.ob, T.c_Hall, T.a_Hall_lying, rfl, _, rfl, x.ly, _, _, e.1, rfl, rfl, hly, ixN_nat (by omega), ?_⟩
    obtain ⟨h2, b2⟩ := h1.setc hly (hc.keep k1) e.1
    generalize upd H1 x.ly (.lst (vs.set e.1 u)) = H2 at h2 b2 ⊢
    refine ⟨_, rfl, x.a, _, _, _, _, rfl, h2.ob, T.c_Hall, T.a_Hall_moved, rfl, _, _, rfl, rfl, x.dx, _, h2.ob, by show 4 < 1000; decide, ?_⟩
    obtain ⟨h3, b3⟩ := h2.mvd (mv + (i : Int) + 1)
    refine ⟨_, _, rfl, b1.trans (b2.trans b3), ?_⟩
    rw [List.take_add_one, he]
    show HallAt K H0 _ x wys L (brg lc (l.take i ++ [e])) _
    rw [brg_snoc, show mv + ((i + 1 : Nat) : Int) = mv + (i : Int) + 1 by omega]
    exact h3
  · rintro σ' H1 ⟨y2, y3, rfl, b1, h1⟩
    rw [hel, List.take_length] at h1
    exact hQ H1 b1 ⟨h1, hok, by rw [brg_len]; exact hle⟩
theorem sc_Hall_look : FnScope ["self", "function", "missing", "part"] ["self", "function"] (defScope s_Hall_look) := ⟨rfl, rfl, rfl, by decide +kernel, rfl, by decide +kernel, by decide +kernel⟩
-- 0 self, 1 function, 2 missing, 3 part
theorem ok_Hall_look (T : Txt w K mg) : FnOk P w K mg base CX0 3 (He.ma K (He.ga K "Hall") "look") (fdOf K d_Hall_look) ["self", "function"] (spLook K) := by
  have G_check_function := ok_check_function (P := P) (base := base) T
  have G_Hall_has_part := ok_Hall_has_part (P := P) (base := base) T
  have G_Hall_bring := ok_Hall_bring (P := P) (base := base) T
  refine T.F_Hall_look.ok sc_Hall_look (fun vs H Q E h => ?_) (fun cdv A outer s H vs Q E hr h => ?_)
  · obtain ⟨H0, x, wys, L, lc, mv, far, f, w, rfl, _⟩ := h
    rfl
  obtain ⟨H0, x, wys, L, lc, mv, far, f, w, rfl, hin, hw, hQ⟩ := h
  refine ⟨_, PSs.nox (pss_cons (ps_expr (pe_call G_check_function (hr.mono (by omega)) (by rfl) T.g_check_function T.kp_check_function T.b_check_function .nil pass0 (pa_cons (pv 1) (pa_cons (pe_callB (r := Evl.rLenS K) call_len_seq (by rfl) T.z_len PySem.boot_len (pa_cons (Ov.pe_fldK (K := K) rfl (pv 0) rfl) pa_nil)) pa_nil))))
      (pss_cons (ps_setLc (i := 2) (own := [("part", 3)]) rfl sc_Hall_look.nd rfl rfl (sw_true rfl rfl rfl (by decide +kernel)) (Ov.pi_listK (K := K) rfl (pe_ix (r := rIxL K) ix_list (Ov.pe_fldK (K := K) rfl (pv 0) rfl) (pv 1) (fun _ _ => rfl))) (blkOk_by (own := [("part", 3)]) (N := ["self", "function", "missing", "part"]) (sc := defScope s_Hall_look) (by decide +kernel)) (fun _ _ _ _ _ => (pg_name (i := 3) sc_Hall_look.nd rfl (by first | exact Or.inl rfl | exact Or.inr rfl))) (fun _ _ _ _ _ => (pts_one (pt_not (pt_val (pe_meth (pv 0) T.c_Hall T.m_Hall_has_part G_Hall_has_part (hr.mono (by omega)) T.b_Hall_has_part .nil pass0 (pa_cons (pv 3) pa_nil)))))) (fun _ _ _ _ _ => (pv 3)))
      (pss_cons (ps_for PassesOwn.never rfl (Ov.pi_listK (K := K) rfl (pv 2)) (pg_name (i := 3) sc_Hall_look.nd rfl (by first | exact Or.inl rfl | exact Or.inr rfl)) (pss_one (ps_expr (pe_meth (pv 0) T.c_Hall T.m_Hall_bring G_Hall_bring (hr.mono (by omega)) T.b_Hall_bring .nil pass0 (pa_cons (pv 3) pa_nil)))))
      (pss_one (ps_ret (pv 2)))))), ?_⟩
  obtain ⟨hat, hok, hle⟩ := hin
  obtain ⟨ws, hwy, hws⟩ := hat.wy
  have hwl := Paired.length hws
  have hfl := (List.getElem?_eq_some_iff.mp hw).1
  obtain ⟨b, hb, hbw, _, nbl⟩ := Paired.got hws hw
  obtain ⟨w8, wlt⟩ := hok.wl w (List.mem_of_getElem? hw)
  refine ⟨_, rfl, _, rfl, x.a, _, _, _, _, rfl, hat.ob, T.c_Hall, T.a_Hall_ways, rfl, x.wy, _, rfl, .inl (SqL.of hwy), f, ws.length, ?_, by omega, ?_⟩
  · rw [List.length_map]
    rfl
  refine ⟨_, rfl, x.a, _, _, _, _, rfl, hat.ob, T.c_Hall, T.a_Hall_ways, rfl, _, rfl, x.wy, _, _, _, rfl, rfl, SqL.of hwy, atI_nat (by rw [List.getElem?_map, hb]; rfl), b, rfl, ⟨_, SqL.of hbw⟩, fun D hD => ?_⟩
  have nDy : D ≠ x.ly := by
    obtain ⟨us, hly, _⟩ := hat.ly
    exact (ne_of_none hly hD).symm
  refine lc_list (K := K) (a := b) (xs := nV w) (fun i H' => Same H H' ∧ H' D = some (.lst (nV (mis lc L (w.take i))))) ⟨Same.new hD, upd_same⟩ (fun i H' _ e => SqL.of (e.1 _ _ hbw)) ?_ ?_
  · rintro i y H1 hi ⟨s1, e1⟩
    obtain ⟨q, hq, rfl⟩ := nV_int hi
    have hil := (List.getElem?_eq_some_iff.mp hq).1
    have hml : (mis lc L (w.take i)).length ≤ 8 := Nat.le_trans (List.length_filter_le _ _) (by rw [List.length_take]; omega)
    have em : mis lc L (w.take (i + 1)) = mis lc L (w.take i) ++ (if Has lc (lyr L q) = true then [] else [q]) := by
      unfold mis
      rw [List.take_add_one, hq, List.filter_append]
      congr 1
      cases e : Has lc (lyr L q) <;> simp [e]
    refine ⟨rfl, _, rfl, x.a, _, _, rfl, s1 _ _ hat.ob, rfl, _, rfl, H0, x, wys, L, lc, mv, far, q, rfl, ⟨hat.same s1, hok, hle⟩, wlt q (List.mem_of_getElem? hq), fun H2 s2 => ?_⟩
    rw [em]
    cases hh : Has lc (lyr L q) with
    | true => exact ⟨_, rfl, iteF ⟨s1.trans s2, by rw [s2 _ _ e1]; simp⟩⟩
    | false =>
      refine ⟨_, rfl, iteT ⟨_, rfl, _, s2 _ _ e1, sm _ (by rw [nV_len]; omega), Ov.Same.updn (s1.trans s2) hD, ?_⟩⟩
      rw [upd_same, if_neg (by decide), nV_app]
  rintro H1 ⟨s1, e1⟩
  rw [nV_len, List.take_length] at e1
  have hat1 := hat.same s1
  generalize hms : mis lc L w = ms at e1 hQ
  have hmm : ∀ q ∈ ms, q < L.length := fun q hq => by
    rw [← hms] at hq
    exact wlt q (List.mem_filter.mp hq).1
  have nDa : D ≠ x.a := (ne_of_none hat.ob hD).symm
  refine ⟨_, rfl, D, rfl, ⟨_, SqL.of e1⟩, ?_⟩
  refine for_list (K := K) (a := D) (xs := nV ms) (fun i σ' H' => ∃ y3 : Option V, σ' = [some (.ref x.a), some (.int (f : Int)), some (.ref D), y3] ∧ ButHl x H1 H' ∧ HallIn K H0 H' x wys L (brgs lc L (ms.take i)) (mv + (siz L (ms.take i) : Nat)) far) ⟨none, rfl, ButHl.refl, by rw [List.take_zero]; show HallIn K H0 H1 x wys L lc (mv + 0) far; rw [Int.add_zero]; exact ⟨hat1, hok, hle⟩⟩ (fun i σ' H' _ ⟨_, _, z, _⟩ => SqL.of (z _ _ nDa nDy e1)) ?_ ?_
  · rintro i y σ' H2 hi ⟨y3, rfl, b2, h2⟩
    obtain ⟨q, hq, rfl⟩ := nV_int hi
    refine ⟨_, rfl, x.a, _, _, rfl, h2.at_.ob, rfl, _, rfl, H0, x, wys, L, _, _, far, q, rfl, h2, hmm q (List.mem_of_getElem? hq), fun H3 b3 h3 => ⟨_, rfl, b2.trans b3, ?_⟩⟩
    rw [List.take_add_one, hq]
    show HallIn K H0 H3 x wys L (brgs lc L (ms.take i ++ [q])) (mv + ((siz L (ms.take i ++ [q]) : Nat) : Int)) far
    rw [brgs_snoc, siz_snoc, Int.natCast_add, ← Int.add_assoc]
    exact h3
  · rintro σ' H2 ⟨y3, rfl, b2, h2⟩
    rw [nV_len, List.take_length] at h2
    refine ⟨_, rfl, hQ H2 D ((ButHl.same s1).trans b2) hD nDy (b2 _ _ nDa nDy e1) h2⟩
theorem sc_Hall_there : FnScope ["self", "function", "part"] ["self", "function"] (defScope s_Hall_there) := ⟨rfl, rfl, rfl, by decide +kernel, rfl, by decide +kernel, by decide +kernel⟩
-- 0 self, 1 function, 2 part
theorem ok_Hall_there (T : Txt w K mg) : FnOk P w K mg base CX0 3 (He.ma K (He.ga K "Hall") "there") (fdOf K d_Hall_there) ["self", "function"] (spThere K) := by
  have G_check_function := ok_check_function (P := P) (base := base) T
  have G_Hall_has_part := ok_Hall_has_part (P := P) (base := base) T
  refine T.F_Hall_there.ok sc_Hall_there (fun vs H Q E h => ?_) (fun cdv A outer s H vs Q E hr h => ?_)
  · obtain ⟨H0, x, wys, L, lc, mv, far, f, w, rfl, _⟩ := h
    rfl
  obtain ⟨H0, x, wys, L, lc, mv, far, f, w, rfl, hin, hw, hQ⟩ := h
  refine ⟨_, PSs.nox (pss_cons (ps_expr (pe_call G_check_function (hr.mono (by omega)) (by rfl) T.g_check_function T.kp_check_function T.b_check_function .nil pass0 (pa_cons (pv 1) (pa_cons (pe_callB (r := Evl.rLenS K) call_len_seq (by rfl) T.z_len PySem.boot_len (pa_cons (Ov.pe_fldK (K := K) rfl (pv 0) rfl) pa_nil)) pa_nil))))
      (pss_one (ps_ret (pe_callB (r := rAll K) (cr_all rfl) (by rfl) T.z_all (by decide +kernel) (pa_cons (pe_lc (own := [("part", 2)]) rfl sc_Hall_there.nd (Ov.pi_listK (K := K) rfl (pe_ix (r := rIxL K) ix_list (Ov.pe_fldK (K := K) rfl (pv 0) rfl) (pv 1) (fun _ _ => rfl))) (blkOk_by (own := [("part", 2)]) (N := ["self", "function", "part"]) (sc := defScope s_Hall_there) (by decide +kernel)) (fun _ _ _ _ _ => (pg_name (i := 2) sc_Hall_there.nd rfl (by first | exact Or.inl rfl | exact Or.inr rfl))) (fun _ _ _ _ _ => pts_nil) (fun _ _ _ _ _ => (pe_meth (pv 0) T.c_Hall T.m_Hall_has_part G_Hall_has_part (hr.mono (by omega)) T.b_Hall_has_part .nil pass0 (pa_cons (pv 2) pa_nil)))) pa_nil))))), ?_⟩
  obtain ⟨hat, hok, hle⟩ := hin
  obtain ⟨ws, hwy, hws⟩ := hat.wy
  have hwl := Paired.length hws
  have hfl := (List.getElem?_eq_some_iff.mp hw).1
  obtain ⟨b, hb, hbw, _, nbl⟩ := Paired.got hws hw
  obtain ⟨w8, wlt⟩ := hok.wl w (List.mem_of_getElem? hw)
  refine ⟨_, rfl, _, rfl, x.a, _, _, _, _, rfl, hat.ob, T.c_Hall, T.a_Hall_ways, rfl, x.wy, _, rfl, .inl (SqL.of hwy), f, ws.length, ?_, by omega, ?_⟩
  · rw [List.length_map]
    rfl
  refine ⟨_, rfl, x.a, _, _, _, _, rfl, hat.ob, T.c_Hall, T.a_Hall_ways, rfl, _, rfl, x.wy, _, _, _, rfl, rfl, SqL.of hwy, atI_nat (by rw [List.getElem?_map, hb]; rfl), b, rfl, ⟨_, SqL.of hbw⟩, fun D hD => ?_⟩
  refine lc_listY (K := K) (a := b) (xs := nV w) (fun i H' => Same H H' ∧ H' D = some (.lst (((w.take i).map fun q => Has lc (lyr L q)).map V.bl))) ⟨Same.new hD, upd_same⟩ (fun i H' _ e => SqL.of (e.1 _ _ hbw)) ?_ ?_
  · rintro i y H1 hi ⟨s1, e1⟩
    obtain ⟨q, hq, rfl⟩ := nV_int hi
    have hil := (List.getElem?_eq_some_iff.mp hq).1
    refine ⟨rfl, _, rfl, x.a, _, _, rfl, s1 _ _ hat.ob, rfl, _, rfl, H0, x, wys, L, lc, mv, far, q, rfl, ⟨hat.same s1, hok, hle⟩, wlt q (List.mem_of_getElem? hq), fun H2 s2 => ?_⟩
    refine ⟨_, s2 _ _ e1, sm _ (by rw [List.length_map, List.length_map, List.length_take]; omega), Ov.Same.updn (s1.trans s2) hD, ?_⟩
    rw [upd_same, List.take_add_one, hq, List.map_append, List.map_append]
    rfl
  · rintro H1 ⟨s1, e1⟩
    rw [nV_len, List.take_length] at e1
    refine ⟨D, _, rfl, SqL.of e1, ?_⟩
    show Q (.bl ((w.map fun q => Has lc (lyr L q)).all id)) H1
    rw [List.all_map]
    exact hQ H1 s1
theorem sc_Hall_cells : FnScope ["self"] ["self"] (defScope s_Hall_cells) := ⟨rfl, rfl, rfl, by decide +kernel, rfl, by decide +kernel, by decide +kernel⟩
-- 0 self
theorem ok_Hall_cells (T : Txt w K mg) : FnOk P w K mg base CX0 1 (He.ma K (He.ga K "Hall") "cells") (fdOf K d_Hall_cells) ["self"] (spCells K) := by
  refine T.F_Hall_cells.ok sc_Hall_cells (fun vs H Q E h => ?_) (fun cdv A outer s H vs Q E hr h => ?_)
  · obtain ⟨H0, x, wys, L, lc, mv, far, rfl, _⟩ := h
    rfl
  obtain ⟨H0, x, wys, L, lc, mv, far, rfl, ⟨hat, hok, hle⟩, hQ⟩ := h
  refine ⟨_, PSs.nox (pss_one (ps_ret (pe_callTy (r := Evl.rListS K) call_list_of (by rfl) T.z_list (by decide +kernel) (pa_cons (Ov.pe_fldK (K := K) rfl (pv 0) rfl) pa_nil)))), ?_⟩
  obtain ⟨us, hly, hus⟩ := hat.ly
  refine ⟨_, rfl, x.a, _, _, _, _, rfl, hat.ob, T.c_Hall, T.a_Hall_lying, rfl, x.ly, us, rfl, .inl (SqL.of hly), fun r hr2 => ?_⟩
  exact hQ _ r us (Same.new hr2) hr2 upd_same (L2.Paired.mapP hus fun _ _ z => z.keep (Keep.same (Same.new hr2)))
theorem sc_Hall_brought : FnScope ["self"] ["self"] (defScope s_Hall_brought) := ⟨rfl, rfl, rfl, by decide +kernel, rfl, by decide +kernel, by decide +kernel⟩
-- 0 self
theorem ok_Hall_brought (T : Txt w K mg) : FnOk P w K mg base CX0 1 (He.ma K (He.ga K "Hall") "brought") (fdOf K d_Hall_brought) ["self"] (spBrought K) := by
  refine T.F_Hall_brought.ok sc_Hall_brought (fun vs H Q E h => ?_) (fun cdv A outer s H vs Q E hr h => ?_)
  · obtain ⟨H0, x, wys, L, lc, mv, far, rfl, _⟩ := h
    rfl
  obtain ⟨H0, x, wys, L, lc, mv, far, rfl, ⟨hat, hok, hle⟩, hQ⟩ := h
  refine ⟨_, PSs.nox (pss_one (ps_ret (Ov.pe_fldK (K := K) rfl (pv 0) rfl))), ?_⟩
  exact ⟨_, rfl, x.a, _, _, _, _, rfl, hat.ob, T.c_Hall, T.a_Hall_moved, rfl, hQ⟩
end
end K07

namespace K07
open PySem PySem.Spec PyProof.Rows L2 Ov
section
variable {P : Program} {w : World} {K : PySem.W.Frag} {mg : Str → Option Value} {base : Heap}
theorem sc_Hall_init : FnScope ["self", "program", "tree", "room", "function"] ["self", "program", "tree", "room"] (defScope s_Hall_init) := ⟨rfl, rfl, rfl, by decide +kernel, rfl, by decide +kernel, by decide +kernel⟩
-- 0 self, 1 program, 2 tree, 3 room, 4 function
theorem ok_Hall_init (T : Txt w K mg) : FnOk P w K mg base CX0 13 (He.ma K (He.ga K "Hall") "__init__") (fdOf K d_Hall_init) ["self", "program", "tree", "room"] (spHallInit K) := by
  have G_check_tree := ok_check_tree (P := P) (base := base) T
  have G_check_room := ok_check_room (P := P) (base := base) T
  have G_end_of := ok_end_of (P := P) (base := base) T
  have G_way_of := ok_way_of (P := P) (base := base) T
  have G_layouts := ok_layouts (P := P) (base := base) T
  refine T.F_Hall_init.ok sc_Hall_init (fun vs H Q E h => ?_) (fun cdv A outer s H vs Q E hr h => ?_)
  · obtain ⟨H0, a, dx, v, t, pr, ps, st, dn, far, room, rfl, _⟩ := h
    rfl
  obtain ⟨H0, a, dx, v, t, pr, ps, st, dn, far, room, rfl, hea, h0a, h0, hpre, hdn, hfar, hle, h64, q⟩ := h
  refine ⟨_, PSs.nox (pss_cons (ps_expr (pe_call G_check_tree (hr.mono (by omega)) (by rfl) T.g_check_tree T.kp_check_tree T.b_check_tree .nil pass0 (pa_cons (pv 1) (pa_cons (pv 2) pa_nil))))
      (pss_cons (ps_expr (pe_call G_check_room (hr.mono (by omega)) (by rfl) T.g_check_room T.kp_check_room T.b_check_room .nil pass0 (pa_cons (pv 3) pa_nil)))
      (pss_cons (ps_if (pt_cmpR op_lt (pv 3) (pe_call G_end_of (hr.mono (by omega)) (by rfl) T.g_end_of T.kp_end_of T.b_end_of .nil pass0 (pa_cons (pv 1) (pa_cons (pv 2) pa_nil))) (nomark _)) (pss_one ps_never) pss_nil)
      (pss_cons (ps_fld (pv 0) (pe_lc (own := [("function", 4)]) rfl sc_Hall_init.nd (pi_range1 (by rfl) T.z_range (pa_cons (pe_callB (r := Evl.rLenS K) call_len_seq (by rfl) T.z_len PySem.boot_len (pa_cons (pv 1) pa_nil)) pa_nil)) (blkOk_by (own := [("function", 4)]) (N := ["self", "program", "tree", "room", "function"]) (sc := defScope s_Hall_init) (by decide +kernel)) (fun _ _ _ _ _ => (pg_name (i := 4) sc_Hall_init.nd rfl (by first | exact Or.inl rfl | exact Or.inr rfl))) (fun _ _ _ _ _ => pts_nil) (fun _ _ _ _ _ => (pe_call G_way_of (hr.mono (by omega)) (by rfl) T.g_way_of T.kp_way_of T.b_way_of .nil pass0 (pa_cons (pv 2) (pa_cons (pv 4) pa_nil))))) rfl)
      (pss_cons (ps_fld (pv 0) (pe_call G_layouts (hr.mono (by omega)) (by rfl) T.g_layouts T.kp_layouts T.b_layouts .nil pass0 (pa_cons (pv 1) (pa_cons (pv 2) pa_nil))) rfl)
      (pss_cons (ps_fld (pv 0) (pe_op op_rep (pe_lst (pa_cons pe_non pa_nil)) (pv 3)) rfl)
      (pss_one (ps_fld (pv 0) pe_int rfl)))))))), ?_⟩
  refine ⟨_, rfl, _, rfl, v, t, pr, ps, st, rfl, hpre, fun H1 s1 => ?_⟩
  have hok := hpre.2.1
  have htr := hpre.2.2.2
  have l8 := hok.l8
  have hc := htr.p.count
  have hfar1 : 1 ≤ far := by
    obtain ⟨i, p, hp, e⟩ := hfar.1
    have h1 := psz_nn hok (p := p) fun x hx => htr.p.lt (List.mem_of_getElem? hp) hx
    have h2 := List.length_pos_iff.mpr (htr.p.ne p (List.mem_of_getElem? hp))
    have h3 := bgn_nn hok htr.p (dn := dn) (i := i)
    omega
  refine ⟨_, rfl, (room : Int), rfl, by omega, by omega, ?_⟩
  refine ⟨_, rfl, _, rfl, _, rfl, v, t, pr, ps, st, dn, rfl, hpre.keep (Keep.same s1), hdn, fun H2 m s2 hm => ?_⟩
  obtain rfl : m = far := hm.uniq hfar
  refine ⟨_, _, rfl, rfl, _, rfl, ?_⟩
  rw [decide_eq_false (show ¬ (room : Int) < m by omega)]
  refine iteF ?_
  have s02 := s1.trans s2
  obtain ⟨⟨pa, vp, rfl, hpa, hpf⟩, _, htr2, _⟩ := hpre.keep (Keep.same s02)
  have hpl := Paired.length hpf
  refine ⟨_, rfl, pa, _, rfl, .inr (SqT.of hpa), _, rfl, by omega, by omega, fun D hD => ?_⟩
  refine lc_rangeY (lo := 0) (n := ((vp.length : Nat) : Int).toNat) (fun i H' => ∃ bs : List Addr, Same H2 H' ∧ H' D = some (.lst (bs.map V.ref)) ∧ Paired (fun b w => H' b = some (.lst (nV w)) ∧ H b = none ∧ b ≠ D) bs ((List.range i).map (wayF ps dn))) ⟨[], Same.new hD, upd_same, .nil⟩ ?_ ?_
  · rintro i H3 hi ⟨bs, s3, eD, hbs⟩
    rw [Int.toNat_natCast, hpl] at hi
    obtain ⟨k, p, j, e1, e2⟩ := htr.p.stands hi
    have hpm := List.mem_of_getElem? e2
    have hkl := (List.getElem?_eq_some_iff.mp e1).1
    have hbl := Paired.length hbs
    rw [List.length_map, List.length_range] at hbl
    refine ⟨rfl, _, rfl, _, rfl, t, pr.length, ps, st, dn, i, k, p, ?_, htr2.keep (Keep.same s3), htr, l8, hdn, e1, hpm, fun H4 r s4 hr4 e4 => ?_⟩
    · show [t, V.int (0 + (i : Int))] = _
      rw [Int.zero_add]
    have eD4 := s4 _ _ eD
    have nDr : D ≠ r := ne_of_none eD hr4
    refine ⟨_, eD4, sm _ (by rw [List.length_map]; omega), bs ++ [r], Ov.Same.updn (s3.trans s4) hD, by rw [upd_same, List.map_append]; rfl, ?_⟩
    rw [List.range_succ, List.map_append]
    refine PySem.Paired.snoc (L2.Paired.mapP hbs fun b w ⟨z1, z2, z3⟩ => ⟨by rw [upd_ne z3]; exact s4 _ _ z1, z2, z3⟩) ⟨?_, Same.free (s02.trans s3) hr4, nDr.symm⟩
    rw [upd_ne nDr.symm, e4]
    unfold wayF
    rw [prt_eq htr.p e1 hpm]
  rintro H3 ⟨bs, s3, eD, hbs⟩
  rw [Int.toNat_natCast, hpl] at hbs
  have s03 := s02.trans s3
  have ea3 := s03 _ _ hea
  have nDa : D ≠ a := (ne_of_none (s02 _ _ hea) hD).symm
  have hD0 := Same.free s02 hD
  refine ⟨_, rfl, a, _, dx, _, rfl, ea3, T.c_Hall, T.a_Hall_ways, by show 0 < 1000; decide, ?_⟩
  have ea4 : upd H3 a (.ins (He.ga K "Hall") dx (putF "ways" (.ref D) [])) a = some (.ins (He.ga K "Hall") dx (putF "ways" (.ref D) [])) := upd_same
  have b4 : ∀ b o, b ≠ a → H3 b = some o → upd H3 a (.ins (He.ga K "Hall") dx (putF "ways" (.ref D) [])) b = some o := fun b o n e => by rw [upd_ne n]; exact e
  generalize upd H3 a (.ins (He.ga K "Hall") dx (putF "ways" (.ref D) [])) = H4 at ea4 b4 ⊢
  have k04 : Keep H H4 := fun c xs e => b4 _ _ (ne_of e hea (by intro z; cases z)) (s03 _ _ e)
  refine ⟨_, rfl, _, rfl, .ref pa, t, pr, ps, st, dn, rfl, hpre.keep k04, hdn, fun H5 p ls cs s5 hp e5 hcs hls => ?_⟩
  have ea5 := s5 _ _ ea4
  have npa : p ≠ a := (ne_of_none ea4 hp).symm
  refine ⟨_, rfl, a, _, dx, _, rfl, ea5, T.c_Hall, T.a_Hall_layouts, by show 1 < 1000; decide, ?_⟩
  have ea6 : upd H5 a (.ins (He.ga K "Hall") dx (putF "layouts" (.ref p) (putF "ways" (.ref D) []))) a = some (.ins (He.ga K "Hall") dx (putF "layouts" (.ref p) (putF "ways" (.ref D) []))) := upd_same
  have b6 : ∀ b o, b ≠ a → H5 b = some o → upd H5 a (.ins (He.ga K "Hall") dx (putF "layouts" (.ref p) (putF "ways" (.ref D) []))) b = some o := fun b o n e => by rw [upd_ne n]; exact e
  generalize upd H5 a (.ins (He.ga K "Hall") dx (putF "layouts" (.ref p) (putF "ways" (.ref D) []))) = H6 at ea6 b6 ⊢
  refine ⟨sml 1, fun l2 hl2 => ⟨_, rfl, l2, ((room : Nat) : Int), _, rfl, rfl, upd_same, by omega, by omega, sml _ (by rw [List.length_singleton, Int.toNat_natCast]; omega), fun F hF => ?_⟩⟩
  rw [rep_v]
  have s68 : Same H6 (upd (upd H6 l2 (.lst [.non])) F (.lst (List.replicate room V.non))) := (Same.new hl2).trans (Same.new hF)
  have hF6 := Same.free (Same.new (o := .lst [.non]) hl2) hF
  have e8 : upd (upd H6 l2 (.lst [.non])) F (.lst (List.replicate room V.non)) F = some (.lst (List.replicate room V.non)) := upd_same
  generalize upd (upd H6 l2 (.lst [.non])) F (.lst (List.replicate room V.non)) = H8 at s68 e8 ⊢
  have nFa : F ≠ a := (ne_of_none ea6 hF6).symm
  refine ⟨_, rfl, a, _, dx, _, rfl, s68 _ _ ea6, T.c_Hall, T.a_Hall_lying, by show 2 < 1000; decide, ?_⟩
  refine ⟨_, rfl, a, _, dx, _, rfl, upd_same, T.c_Hall, T.a_Hall_moved, by show 3 < 1000; decide, ?_⟩
  have last : ∀ {b : Addr} {o : HO} {u1 u2 : HO}, b ≠ a → H8 b = some o → upd (upd H8 a u1) a u2 b = some o := fun n e => by
    rw [upd_ne n, upd_ne n]
    exact e
  have l5 : ∀ {b : Addr} {o : HO}, b ≠ a → H5 b = some o → H8 b = some o := fun n e => s68 _ _ (b6 _ _ n e)
  have l3 : ∀ {b : Addr} {o : HO}, b ≠ a → H3 b = some o → H8 b = some o := fun n e => l5 n (s5 _ _ (b4 _ _ n e))
  have nF3 : ∀ {b : Addr} {o : HO}, b ≠ a → H3 b = some o → b ≠ F := fun n e => ne_of_none (b6 _ _ n (s5 _ _ (b4 _ _ n e))) hF6
  have nF5 : ∀ {b : Addr} {o : HO}, b ≠ a → H5 b = some o → b ≠ F := fun n e => ne_of_none (b6 _ _ n e) hF6
  have fr4 : ∀ {b : Addr}, H4 b = none → H b = none := fun {b} hb => by
    cases e : H b with
    | none => rfl
    | some o =>
      exfalso
      by_cases n : b = a
      · subst n
        rw [ea4] at hb
        cases hb
      · rw [b4 _ _ n (s03 _ _ e)] at hb
        cases hb
  have fr6 : H F = none := by
    cases e : H F with
    | none => rfl
    | some o =>
      exfalso
      have z := b6 _ _ nFa (s5 _ _ (b4 _ _ nFa (s03 _ _ e)))
      rw [hF6] at z
      cases z
  have k8 : ∀ {u1 u2 : HO}, Keep H5 (upd (upd H8 a u1) a u2) := fun c xs e => by
    have n : c ≠ a := ne_of e ea5 (by intro z; cases z)
    exact last n (l5 n e)
  have hbl := Paired.length hbs
  have hneb : ∀ b ∈ bs, H b = none → b ≠ a := fun b _ hb z => by
    rw [z, hea] at hb
    cases hb
  refine q _ ⟨a, dx, D, p, F⟩ cs (fun b o n e => last n (l3 n (s03 _ _ e))) rfl rfl hcs ⟨⟨?_, ⟨bs, last nDa (l3 nDa eD), ?_⟩, ⟨ls, last npa (l5 npa e5), ?_⟩, ⟨List.replicate room V.non, last nFa e8, ?_⟩, h0a, ⟨h0 _ hD0, nF3 nDa eD⟩, ⟨h0 _ (fr4 hp), nF5 npa e5⟩, h0 _ fr6⟩, hall_ok hok htr hdn hcs hfar, ?_⟩
  · rw [upd_same]
    rfl
  · refine PairedMem.map hbs fun b w hb ⟨z1, z2, z3⟩ => ?_
    have nb := hneb b hb z2
    exact ⟨last nb (l3 nb z1), h0 _ z2, nF3 nb z1⟩
  · refine PairedMem.map hls fun b l hb ⟨⟨us, z1, z2⟩, z3⟩ => ?_
    have z4 := fr4 z3
    have nb : b ≠ a := fun z => by
      rw [z, hea] at z4
      cases z4
    exact ⟨⟨us, last nb (l5 nb z1), L2.Paired.mapP z2 fun _ _ y => y.keep k8⟩, h0 _ z4, nF5 nb z1⟩
  · exact cells_none room
  · rw [List.length_replicate]
    omega
end
end K07

namespace K07
open PySem PySem.Spec PyProof.Rows L2 Ov
section
variable {P : Program} {w : World} {K : PySem.W.Frag} {mg : Str → Option Value} {base : Heap}
theorem sc_numbered : FnScope ["program", "_", "body"] ["program"] (defScope s_numbered) := ⟨rfl, rfl, rfl, by decide +kernel, rfl, by decide +kernel, by decide +kernel⟩
-- 0 program, 1 _, 2 body
theorem ok_numbered (T : Txt w K mg) : FnOk P w K mg base CX0 10 (He.ga K "numbered") (fdOf K d_numbered) ["program"] spNumbered := by
  have G_words_of := ok_words_of (P := P) (base := base) T
  refine T.F_numbered.ok sc_numbered (fun vs H Q E h => ?_) (fun cdv A outer s H vs Q E hr h => ?_)
  · obtain ⟨v, pr, rfl, _⟩ := h
    rfl
  obtain ⟨v, pr, rfl, ⟨a, vs, rfl, ha, hvs⟩, hok, q⟩ := h
  have hpl := Paired.length hvs
  have l8 := hok.l8
  refine ⟨_, PSs.nox (pss_one (ps_ret (pe_lc (own := [("_", 1), ("body", 2)]) rfl sc_numbered.nd (Ov.pi_tupK (K := K) rfl (pv 0)) (blkOk_by (own := [("_", 1), ("body", 2)]) (N := ["program", "_", "body"]) (sc := defScope s_numbered) (by decide +kernel)) (fun _ _ _ _ _ => (Ov.pg_tupK (K := K) (n := 2) rfl rfl (pgs_cons (pg_name (i := 1) sc_numbered.nd rfl (by first | exact Or.inl rfl | exact Or.inr rfl)) (pgs_cons (pg_name (i := 2) sc_numbered.nd rfl (by first | exact Or.inl rfl | exact Or.inr rfl)) pgs_nil)))) (fun _ _ _ _ _ => pts_nil) (fun _ _ _ _ _ => (pe_call G_words_of (hr.mono (by omega)) (by rfl) T.g_words_of T.kp_words_of T.b_words_of .nil pass0 (pa_cons (pv 2) pa_nil)))))), ?_⟩
  refine ⟨_, rfl, a, rfl, ⟨_, SqT.of ha⟩, fun D hD => ?_⟩
  refine lc_tupY (K := K) (a := a) (xs := vs) (fun i H' => ∃ bs : List Addr, Same H H' ∧ H' D = some (.lst (bs.map V.ref)) ∧ Paired (BodyAt H') bs (pr.take i) ∧ (∀ b ∈ bs, H b = none ∧ b ≠ D)) ⟨[], Same.new hD, upd_same, .nil, (fun _ z => nomatch z)⟩ (fun i H' _ ⟨_, e, _⟩ => SqT.of (e _ _ ha)) ?_ ?_
  · rintro i x H1 hi ⟨bs, s1, e1, hb, hn⟩
    obtain ⟨f, hf, ⟨b, bv, rfl, hb1, hbv⟩⟩ := Paired.get2 hvs hi
    have hfo := hok.f f (List.mem_of_getElem? hf)
    have hbl := Paired.length hb
    rw [List.length_take] at hbl
    refine ⟨b, _, rfl, SqT.of (s1 _ _ hb1), rfl, _, _, rfl, _, _, rfl, rfl, rfl, _, rfl, bv, pr.length, f.2, rfl, hbv.keep (Keep.same s1), hfo.2.2.1, by have := hfo.2.2.2; omega, fun H2 p ys s2 hp e2 hys => ?_⟩
    have nDp : D ≠ p := ne_of_none e1 hp
    have kD := Keep.updL (ys := bs.map V.ref ++ [.ref p]) (s2 _ _ e1)
    have mono : ∀ {b : Addr} {g : Int × W}, b ≠ D → BodyAt H2 b g → BodyAt (upd H2 D (.lst (bs.map V.ref ++ [.ref p]))) b g := fun n ⟨zs, h1, h2⟩ => ⟨zs, by rw [upd_ne n]; exact h1, L2.Paired.mapP h2 fun _ _ z => z.keep kD⟩
    refine ⟨_, s2 _ _ e1, sm _ (by rw [List.length_map]; omega), bs ++ [p], Ov.Same.updn (s1.trans s2) hD, by rw [upd_same, List.map_append]; rfl, ?_, fun b' hb' => ?_⟩
    · rw [List.take_add_one, hf]
      refine PySem.Paired.snoc ?_ (mono nDp.symm ⟨ys, e2, hys⟩)
      exact PairedMem.map hb fun b' _ hm z => mono (hn b' hm).2 (z.same s2)
    · rcases List.mem_append.mp hb' with h | h
      · exact hn b' h
      · rw [List.mem_singleton.mp h]
        exact ⟨Same.free s1 hp, nDp.symm⟩
  · rintro H1 ⟨bs, s1, e1, hb, hn⟩
    rw [hpl, List.take_length] at hb
    exact q H1 D bs s1 hD e1 hb fun b h => (hn b h).1
theorem sc_reckoned : FnScope ["name", "left", "right", "number"] ["name", "left", "right"] (defScope s_reckoned) := ⟨rfl, rfl, rfl, by decide +kernel, rfl, by decide +kernel, by decide +kernel⟩
-- 0 name, 1 left, 2 right, 3 number
theorem ok_reckoned (T : Txt w K mg) : FnOk P w K mg base CX0 1 (He.ga K "reckoned") (fdOf K d_reckoned) ["name", "left", "right"] spReckoned := by
  refine T.F_reckoned.ok sc_reckoned (fun vs H Q E h => ?_) (fun cdv A outer s H vs Q E hr h => ?_)
  · obtain ⟨o, x, y, rfl, _⟩ := h
    rfl
  obtain ⟨o, x, y, rfl, ho, hx0, hx1, q⟩ := h
  refine ⟨_, PSs.nox (pss_cons (ps_if (pt_cmpR op_eq (pv 0) pe_str (nomark _)) (pss_one (ps_set (i := 3) sc_reckoned.nd rfl (by first | exact Or.inl rfl | exact Or.inr rfl) (pe_op op_add (pv 1) (pv 2)))) (pss_one (ps_if (pt_cmpR op_eq (pv 0) pe_str (nomark _)) (pss_one (ps_set (i := 3) sc_reckoned.nd rfl (by first | exact Or.inl rfl | exact Or.inr rfl) (pe_op op_sub (pv 1) (pv 2)))) (pss_one (ps_set (i := 3) sc_reckoned.nd rfl (by first | exact Or.inl rfl | exact Or.inr rfl) (pe_op op_mul (pv 1) (pv 2)))))))
      (pss_one (ps_ret (pe_tup (pa_cons pe_str (pa_cons (pe_op op_mod (pv 3) (pe_glob (v := .int 1000) (by rfl) T.i_NUMBERS.choose_spec ⟨_, rfl⟩)) pa_nil)))))), ?_⟩
  rcases ho with rfl | rfl | rfl
  · refine ⟨_, rfl, rfl, _, rfl, iteT ⟨_, rfl, _, rfl, _, _, rfl, rfl, ?_⟩⟩
    exact ⟨_, rfl, _, 1000, rfl, rfl, (by show (0 : Int) < 1000; decide), sml 2, fun t ht => q _ t _ (Same.new ht) ht upd_same fun _ _ _ => rfl⟩
  · refine ⟨_, rfl, rfl, _, rfl, iteF ⟨_, rfl, rfl, _, rfl, iteT ⟨_, rfl, _, rfl, _, _, rfl, rfl, ?_⟩⟩⟩
    exact ⟨_, rfl, _, 1000, rfl, rfl, (by show (0 : Int) < 1000; decide), sml 2, fun t ht => q _ t _ (Same.new ht) ht upd_same fun _ _ _ => rfl⟩
  · refine ⟨_, rfl, rfl, _, rfl, iteF ⟨_, rfl, rfl, _, rfl, iteF ⟨_, rfl, _, rfl, _, _, rfl, rfl, .inl ⟨by omega, by omega⟩, ?_⟩⟩⟩
    exact ⟨_, rfl, _, 1000, rfl, rfl, (by show (0 : Int) < 1000; decide), sml 2, fun t ht => q _ t _ (Same.new ht) ht upd_same fun _ _ _ => rfl⟩
end
end K07

namespace K07
open PySem PySem.Spec PyProof.Rows L2 Ov
section
variable {P : Program} {w : World} {K : PySem.W.Frag} {mg : Str → Option Value} {base : Heap}
theorem sc_number_in : FnScope ["worth", "kind", "number"] ["worth"] (defScope s_number_in) := ⟨rfl, rfl, rfl, by decide +kernel, rfl, by decide +kernel, by decide +kernel⟩
-- 0 worth, 1 kind, 2 number
theorem ok_number_in (T : Txt w K mg) : FnOk P w K mg base (L2.CX P w) 3 (He.ga K "number_in") (fdOf K d_number_in) ["worth"] (spNumIn K) := by
  refine T.F_number_in.ok sc_number_in (fun vs H Q E h => ?_) (fun cdv A outer s H vs Q E hr h => ?_)
  · obtain ⟨v, a, rfl, _⟩ := h
    rfl
  obtain ⟨v, a, rfl, ⟨t, rfl, ht⟩, q⟩ := h
  refine ⟨_, (pss_cons (ps_asg (pv 0) (Ov.pg_tupK (K := K) (n := 2) rfl rfl (pgs_cons (pg_name (i := 1) sc_number_in.nd rfl (by first | exact Or.inl rfl | exact Or.inr rfl)) (pgs_cons (pg_name (i := 2) sc_number_in.nd rfl (by first | exact Or.inl rfl | exact Or.inr rfl)) pgs_nil))))
      (pss_cons (ps_if (pt_cmpR op_ne (pv 1) pe_str (nomark _)) (pss_one (ps_raiseFlt rfl T.flt hr (takes_of rfl rfl rfl rfl) (by exact (pa_cons pe_str pa_nil)))) pss_nil)
      (pss_one (ps_ret (pv 2))))), ?_⟩
  cases a with
  | num z => exact ⟨_, rfl, t, _, rfl, SqT.of ht, rfl, _, _, rfl, _, _, rfl, rfl, _, rfl, rfl, _, rfl, iteF ⟨_, rfl, q⟩⟩
  | way f => exact ⟨_, rfl, t, _, rfl, SqT.of ht, rfl, _, _, rfl, _, _, rfl, rfl, _, rfl, rfl, _, rfl, iteT ⟨_, rfl, fun d hd => q _ d (Same.new hd) hd upd_same⟩⟩
theorem sc_end_of_way : FnScope ["worth", "kind", "function"] ["worth"] (defScope s_end_of_way) := ⟨rfl, rfl, rfl, by decide +kernel, rfl, by decide +kernel, by decide +kernel⟩
-- 0 worth, 1 kind, 2 function
theorem ok_end_of_way (T : Txt w K mg) : FnOk P w K mg base (L2.CX P w) 3 (He.ga K "end_of_way") (fdOf K d_end_of_way) ["worth"] (spEndIn K) := by
  refine T.F_end_of_way.ok sc_end_of_way (fun vs H Q E h => ?_) (fun cdv A outer s H vs Q E hr h => ?_)
  · obtain ⟨v, a, rfl, _⟩ := h
    rfl
  obtain ⟨v, a, rfl, ⟨t, rfl, ht⟩, q⟩ := h
  refine ⟨_, (pss_cons (ps_asg (pv 0) (Ov.pg_tupK (K := K) (n := 2) rfl rfl (pgs_cons (pg_name (i := 1) sc_end_of_way.nd rfl (by first | exact Or.inl rfl | exact Or.inr rfl)) (pgs_cons (pg_name (i := 2) sc_end_of_way.nd rfl (by first | exact Or.inl rfl | exact Or.inr rfl)) pgs_nil))))
      (pss_cons (ps_if (pt_cmpR op_ne (pv 1) pe_str (nomark _)) (pss_one (ps_raiseFlt rfl T.flt hr (takes_of rfl rfl rfl rfl) (by exact (pa_cons pe_str pa_nil)))) pss_nil)
      (pss_one (ps_ret (pv 2))))), ?_⟩
  cases a with
  | num z => exact ⟨_, rfl, t, _, rfl, SqT.of ht, rfl, _, _, rfl, _, _, rfl, rfl, _, rfl, rfl, _, rfl, iteT ⟨_, rfl, fun d hd => q _ d (Same.new hd) hd upd_same⟩⟩
  | way f => exact ⟨_, rfl, t, _, rfl, SqT.of ht, rfl, _, _, rfl, _, _, rfl, rfl, _, rfl, rfl, _, rfl, iteF ⟨_, rfl, q⟩⟩
end
end K07

namespace K07
open PySem PySem.Spec PyProof.Rows L2 Ov
section
variable {P : Program} {w : World} {K : PySem.W.Frag} {mg : Str → Option Value} {base : Heap}
theorem sc_Run_init : FnScope ["self", "program"] ["self", "program"] (defScope s_Run_init) := ⟨rfl, rfl, rfl, by decide +kernel, rfl, by decide +kernel, by decide +kernel⟩
-- 0 self, 1 program
theorem ok_Run_init (T : Txt w K mg) : FnOk P w K mg base CX0 11 (He.ma K (He.ga K "Run") "__init__") (fdOf K d_Run_init) ["self", "program"] (spRunInit K) := by
  have G_numbered := ok_numbered (P := P) (base := base) T
  refine T.F_Run_init.ok sc_Run_init (fun vs H Q E h => ?_) (fun cdv A outer s H vs Q E hr h => ?_)
  · obtain ⟨a, dx, v, pr, rfl, _⟩ := h
    rfl
  obtain ⟨a, dx, v, pr, rfl, ha, hpr, hok, q⟩ := h
  refine ⟨_, PSs.nox (pss_cons (ps_fld (pv 0) (pe_call G_numbered (hr.mono (by omega)) (by rfl) T.g_numbered T.kp_numbered T.b_numbered .nil pass0 (pa_cons (pv 1) pa_nil)) rfl)
      (pss_cons (ps_fld (pv 0) pe_non rfl)
      (pss_cons (ps_fld (pv 0) (pe_lst pa_nil) rfl)
      (pss_cons (ps_fld (pv 0) (pe_lst pa_nil) rfl)
      (pss_cons (ps_fld (pv 0) pe_int rfl)
      (pss_one (ps_fld (pv 0) pe_int rfl))))))), ?_⟩
  refine ⟨_, rfl, v, pr, rfl, hpr, hok, fun H1 bo bs s1 hbo ebo hbs hnb => ?_⟩
  refine ⟨_, rfl, a, _, dx, _, rfl, s1 _ _ ha, T.c_Run, T.a_Run_bodies, by show 0 < 1000; decide, ?_⟩
  refine ⟨_, rfl, a, _, dx, _, rfl, upd_same, T.c_Run, T.a_Run_told, by show 1 < 1000; decide, ?_⟩
  have na : ∀ {b : Addr}, H1 b = none → b ≠ a := fun hb z => by
    rw [z, s1 _ _ ha] at hb
    cases hb
  have ea2 : upd (upd H1 a (.ins (He.ga K "Run") dx (putF "bodies" (.ref bo) []))) a (.ins (He.ga K "Run") dx (putF "told" .non (putF "bodies" (.ref bo) []))) a = some (.ins (He.ga K "Run") dx (putF "told" .non (putF "bodies" (.ref bo) []))) := upd_same
  have fr2 : ∀ b o, b ≠ a → H1 b = some o → upd (upd H1 a (.ins (He.ga K "Run") dx (putF "bodies" (.ref bo) []))) a (.ins (He.ga K "Run") dx (putF "told" .non (putF "bodies" (.ref bo) []))) b = some o := fun b o n e => by
    rw [upd_ne n, upd_ne n]
    exact e
  generalize upd (upd H1 a (.ins (He.ga K "Run") dx (putF "bodies" (.ref bo) []))) a (.ins (He.ga K "Run") dx (putF "told" .non (putF "bodies" (.ref bo) []))) = H2 at ea2 fr2 ⊢
  refine ⟨sml 0, fun sa hsa => ?_⟩
  have nsa : sa ≠ a := (ne_of_none ea2 hsa).symm
  refine ⟨_, rfl, a, _, dx, _, rfl, Same.new hsa _ _ ea2, T.c_Run, T.a_Run_said, by show 2 < 1000; decide, ?_⟩
  have ea3 : upd (upd H2 sa (.lst [])) a (.ins (He.ga K "Run") dx (putF "said" (.ref sa) (putF "told" .non (putF "bodies" (.ref bo) [])))) a = some (.ins (He.ga K "Run") dx (putF "said" (.ref sa) (putF "told" .non (putF "bodies" (.ref bo) [])))) := upd_same
  have es3 : upd (upd H2 sa (.lst [])) a (.ins (He.ga K "Run") dx (putF "said" (.ref sa) (putF "told" .non (putF "bodies" (.ref bo) [])))) sa = some (.lst []) := by rw [upd_ne nsa, upd_same]
  have fr3 : ∀ b o, b ≠ a → H1 b = some o → upd (upd H2 sa (.lst [])) a (.ins (He.ga K "Run") dx (putF "said" (.ref sa) (putF "told" .non (putF "bodies" (.ref bo) [])))) b = some o := fun b o n e => by
    rw [upd_ne n]
    exact Same.new hsa _ _ (fr2 b o n e)
  have fsa : ∀ {b : Addr} {o : HO}, b ≠ a → H1 b = some o → b ≠ sa := fun n e => ne_of_none (fr2 _ _ n e) hsa
  generalize upd (upd H2 sa (.lst [])) a (.ins (He.ga K "Run") dx (putF "said" (.ref sa) (putF "told" .non (putF "bodies" (.ref bo) [])))) = H3 at ea3 es3 fr3 ⊢
  refine ⟨sml 0, fun ro hro => ?_⟩
  have nro : ro ≠ a := (ne_of_none ea3 hro).symm
  have nsr : sa ≠ ro := ne_of_none es3 hro
  refine ⟨_, rfl, a, _, dx, _, rfl, Same.new hro _ _ ea3, T.c_Run, T.a_Run_row, by show 3 < 1000; decide, ?_⟩
  refine ⟨_, rfl, a, _, dx, _, rfl, upd_same, T.c_Run, T.a_Run_calls, by show 4 < 1000; decide, ?_⟩
  refine ⟨_, rfl, a, _, dx, _, rfl, upd_same, T.c_Run, T.a_Run_others, by show 5 < 1000; decide, ?_⟩
  have last : ∀ {b : Addr} {o : HO} {u1 u2 u3 : HO}, b ≠ a → H3 b = some o → upd (upd (upd (upd H3 ro (.lst [])) a u1) a u2) a u3 b = some o := fun n e => by
    rw [upd_ne n, upd_ne n, upd_ne n]
    exact Same.new hro _ _ e
  have fbo : ∀ {b : Addr} {o : HO}, b ≠ a → H1 b = some o → b ≠ ro := fun n e => ne_of_none (fr3 _ _ n e) hro
  have nbo : bo ≠ a := (ne_of_none ha hbo).symm
  have z1 : H sa = none := by
    cases e : H sa with
    | none => rfl
    | some o =>
      have z := fr2 _ _ nsa (s1 _ _ e)
      rw [hsa] at z
      cases z
  have z2 : H ro = none := by
    cases e : H ro with
    | none => rfl
    | some o =>
      have z := fr3 _ _ nro (s1 _ _ e)
      rw [hro] at z
      cases z
  refine q _ ⟨a, dx, bo, sa, ro⟩ (fun b o n e => last n (fr3 _ _ n (s1 _ _ e))) rfl rfl z1 z2 ⟨?_, ⟨bs, last nbo (fr3 _ _ nbo ebo), ?_, fun b hb => ?_⟩, last nsa es3, ?_, fsa nbo ebo, fbo nbo ebo, nsr⟩
  · rw [upd_same]
    exact congrArg (fun l => some (HO.ins (He.ga K "Run") dx l)) (runFs_new (x := ⟨a, dx, bo, sa, ro⟩))
  · refine PairedMem.map hbs fun b f hb ⟨ys, z1, z2⟩ => ⟨ys, ?_, L2.Paired.mapP z2 fun _ _ z => z.keep fun c xs e => ?_⟩
    · have nb : b ≠ a := (ne_of_none ha (hnb b hb)).symm
      exact last nb (fr3 _ _ nb z1)
    · have nc : c ≠ a := ne_of e (s1 _ _ ha) (by intro z; cases z)
      exact last nc (fr3 _ _ nc e)
  · have nb : b ≠ a := (ne_of_none ha (hnb b hb)).symm
    obtain ⟨f, ys, z1, _⟩ := PairedMem.left hbs b hb
    exact ⟨fsa nb z1, fbo nb z1⟩
  · rw [upd_ne nro, upd_ne nro, upd_ne nro, upd_same]
    rfl
end
end K07

namespace K07
open PySem PySem.Spec PyProof.Rows L2 Ov
section
variable {P : Program} {w : World} {K : PySem.W.Frag} {mg : Str → Option Value} {base : Heap}
theorem sc_Run_say : FnScope ["self", "worth"] ["self", "worth"] (defScope s_Run_say) := ⟨rfl, rfl, rfl, by decide +kernel, rfl, by decide +kernel, by decide +kernel⟩
-- 0 self, 1 worth
theorem ok_Run_say (T : Txt w K mg) : FnOk P w K mg base (L2.CX P w) 4 (He.ma K (He.ga K "Run") "say") (fdOf K d_Run_say) ["self", "worth"] (spSay K) := by
  have G_number_in := ok_number_in (P := P) (base := base) T
  refine T.F_Run_say.ok sc_Run_say (fun vs H Q E h => ?_) (fun cdv A outer s H vs Q E hr h => ?_)
  · obtain ⟨x, pr, told, v, s, oth, a, rfl, _⟩ := h
    rfl
  obtain ⟨x, pr, told, v, s, oth, a, rfl, hR, hv, hsz, q⟩ := h
  refine ⟨_, (pss_cons (ps_expr (Ov.pe_bmK (K := K) rfl PySem.F.plainAttrs_list PySem.F.slot_list_append PySem.F.type_list_append mt_append (Ov.pe_fldK (K := K) rfl (pv 0) rfl) (pa_cons (pe_callS G_number_in (hr.mono (by omega)) (by rfl) T.g_number_in T.kp_number_in T.b_number_in (fun σ => passAt (takes_of rfl rfl rfl rfl) σ) (pa_cons (pv 1) pa_nil)) pa_nil)))
      (pss_one (ps_ret (pv 1)))), ?_⟩
  refine ⟨_, rfl, x.a, _, _, _, _, rfl, hR.ob, T.c_Run, T.a_Run_said, rfl, .inl ⟨rfl, _, SqL.of hR.sa⟩, _, rfl, v, a, rfl, hv, ?_⟩
  cases a with
  | num z => exact ⟨x.sa, _, _, rfl, rfl, hR.sa, Nat.lt_of_le_of_lt (by rw [List.length_map]; exact hsz) (by decide), _, rfl, q _ (fun b o _ n _ e => by rw [upd_ne n]; exact e) hR.updS⟩
  | way f => exact q
end
end K07

namespace K07
open PySem PySem.Spec PyProof.Rows L2 Ov
section
variable {P : Program} {w : World} {K : PySem.W.Frag} {mg : Str → Option Value} {base : Heap}
theorem sc_Run_enter : FnScope ["self", "place", "called"] ["self", "place", "called"] (defScope s_Run_enter) := ⟨rfl, rfl, rfl, by decide +kernel, rfl, by decide +kernel, by decide +kernel⟩
-- 0 self, 1 place, 2 called
theorem ok_Run_enter (T : Txt w K mg) : FnOk P w K mg base CX0 1 (He.ma K (He.ga K "Run") "enter") (fdOf K d_Run_enter) ["self", "place", "called"] (spEnter K) := by
  refine T.F_Run_enter.ok sc_Run_enter (fun vs H Q E h => ?_) (fun cdv A outer s H vs Q E hr h => ?_)
  · obtain ⟨x, pr, told, v, s, oth, f, rfl, _⟩ := h
    rfl
  obtain ⟨x, pr, told, v, s, oth, f, rfl, hR, hsz, q⟩ := h
  refine ⟨_, PSs.nox (pss_one (ps_expr (Ov.pe_bmK (K := K) rfl PySem.F.plainAttrs_list PySem.F.slot_list_append PySem.F.type_list_append mt_append (Ov.pe_fldK (K := K) rfl (pv 0) rfl) (pa_cons (pv 2) pa_nil)))), ?_⟩
  exact ⟨_, rfl, x.a, _, _, _, _, rfl, hR.ob, T.c_Run, T.a_Run_row, rfl, .inl ⟨rfl, _, SqL.of hR.ro⟩, _, rfl, x.ro, _, _, rfl, rfl, hR.ro, Nat.lt_of_le_of_lt (by rw [nV_len]; exact hsz) (by decide), q _ (fun b o _ _ n e => by rw [upd_ne n]; exact e) hR.updR⟩
theorem sc_Run_come_back : FnScope ["self", "place"] ["self", "place"] (defScope s_Run_come_back) := ⟨rfl, rfl, rfl, by decide +kernel, rfl, by decide +kernel, by decide +kernel⟩
-- 0 self, 1 place
theorem ok_Run_come_back (T : Txt w K mg) : FnOk P w K mg base CX0 1 (He.ma K (He.ga K "Run") "come_back") (fdOf K d_Run_come_back) ["self", "place"] (spBack K) := by
  refine T.F_Run_come_back.ok sc_Run_come_back (fun vs H Q E h => ?_) (fun cdv A outer s H vs Q E hr h => ?_)
  · obtain ⟨x, pr, told, s, oth, p, f, wi, rfl, _⟩ := h
    rfl
  obtain ⟨x, pr, told, s, oth, p, f, wi, rfl, hp, hR, hsz, q⟩ := h
  refine ⟨_, PSs.nox (pss_one (ps_expr (Ov.pe_bmK (K := K) rfl PySem.F.plainAttrs_list PySem.F.slot_list_append PySem.F.type_list_append mt_append (Ov.pe_fldK (K := K) rfl (pv 0) rfl) (pa_cons (pe_ix (r := rIxT K) ix_tup (pv 1) pe_int (fun _ _ => rfl)) pa_nil)))), ?_⟩
  exact ⟨_, rfl, x.a, _, _, _, _, rfl, hR.ob, T.c_Run, T.a_Run_row, rfl, .inl ⟨rfl, _, SqL.of hR.ro⟩, _, rfl, p, _, 0, _, rfl, rfl, SqT.of hp, atI_nat (j := 0) rfl, x.ro, _, _, rfl, rfl, hR.ro, Nat.lt_of_le_of_lt (by rw [nV_len]; exact hsz) (by decide), q _ (fun b o _ _ n e => by rw [upd_ne n]; exact e) hR.updR⟩
theorem sc_Run_call : FnScope ["self", "place", "called", "argument", "told"] ["self", "place", "called", "argument"] (defScope s_Run_call) := ⟨rfl, rfl, rfl, by decide +kernel, rfl, by decide +kernel, by decide +kernel⟩
-- 0 self, 1 place, 2 called, 3 argument, 4 told
theorem ok_Run_call0 (T : Txt w K mg) {pr : List (Int × W)} (G_Run_worth : FnOk P w K mg base (L2.CX P w) 0 (He.ma K (He.ga K "Run") "worth") (fdOf K d_Run_worth) ["self", "function", "word", "argument"] fun _ _ _ _ => False) : FnOk P w K mg base (L2.CX P w) 5 (He.ma K (He.ga K "Run") "call") (fdOf K d_Run_call) ["self", "place", "called", "argument"] (spCallP K pr 0) := by
  have G_Run_enter := ok_Run_enter (P := P) (base := base) T
  have G_Run_come_back := ok_Run_come_back (P := P) (base := base) T
  refine T.F_Run_call.ok sc_Run_call (fun vs H Q E h => ?_) (fun cdv A outer s H vs Q E hr h => ?_)
  · obtain ⟨x, told, v, s, oth, p, c, wi, f, a, rfl, _⟩ := h
    rfl
  obtain ⟨x, told, v, s, oth, p, c, wi, f, a, rfl, hp, hR, hok, hc, hf, hv, ha, hphi, hoth, q⟩ := h
  refine ⟨_, (pss_cons (ps_if (pt_cmpR op_ge (Ov.pe_fldK (K := K) rfl (pv 0) rfl) (pe_glob (v := .int 12) (by rfl) T.i_MOST_OTHERS.choose_spec ⟨_, rfl⟩) (nomark _)) (pss_one (ps_raiseFlt rfl T.flt hr (takes_of rfl rfl rfl rfl) (by exact (pa_cons pe_str pa_nil)))) pss_nil)
      (pss_cons (ps_if (pt_cmpR op_ge (Ov.pe_fldK (K := K) rfl (pv 0) rfl) (pe_glob (v := .int 200) (by rfl) T.i_MOST_CALLS.choose_spec ⟨_, rfl⟩) (nomark _)) (pss_one (ps_raiseFlt rfl T.flt hr (takes_of rfl rfl rfl rfl) (by exact (pa_cons pe_str pa_nil)))) pss_nil)
      (pss_cons (ps_fldaug (pv 0) pe_int in_add)
      (pss_cons (ps_fldaug (pv 0) pe_int in_add)
      (pss_cons (ps_expr (pe_meth (pv 0) T.c_Run T.m_Run_enter G_Run_enter (hr.mono (by omega)) T.b_Run_enter .nil pass0 (pa_cons (pv 1) (pa_cons (pv 2) pa_nil))))
      (pss_cons (ps_set (i := 4) sc_Run_call.nd rfl (by first | exact Or.inl rfl | exact Or.inr rfl) (pe_meth (pv 0) T.c_Run T.m_Run_worth G_Run_worth (hr.mono (by omega)) T.b_Run_worth .nil (passes_call (takes_of rfl rfl rfl rfl) (fun _ _ _ _ z => z)) (pa_cons (pv 2) (pa_cons pe_int (pa_cons (pv 3) pa_nil)))))
      (pss_cons (ps_expr (pe_meth (pv 0) T.c_Run T.m_Run_come_back G_Run_come_back (hr.mono (by omega)) T.b_Run_come_back .nil pass0 (pa_cons (pv 1) pa_nil)))
      (pss_cons (ps_fldaug (pv 0) pe_int in_sub)
      (pss_one (ps_ret (pv 4))))))))))), ?_⟩
  refine ⟨_, rfl, x.a, _, _, _, _, rfl, hR.ob, T.c_Run, T.a_Run_others, rfl, _, _, rfl, rfl, _, rfl, ?_⟩
  rw [decide_eq_true (show (12 : Int) ≤ oth by omega)]
  exact iteT ⟨_, rfl, fun d hd => q.out ButP.refl hR _ d (Same.new hd) hd upd_same⟩
theorem ok_Run_callS (T : Txt w K mg) {pr : List (Int × W)} {n k : Nat} (G_Run_worth : FnOk P w K mg base (L2.CX P w) k (He.ma K (He.ga K "Run") "worth") (fdOf K d_Run_worth) ["self", "function", "word", "argument"] (spWorth K pr n 7)) (hk : 4 ≤ k) : FnOk P w K mg base (L2.CX P w) (k + 1) (He.ma K (He.ga K "Run") "call") (fdOf K d_Run_call) ["self", "place", "called", "argument"] (spCallP K pr (n + 1)) := by
  have G_Run_enter := ok_Run_enter (P := P) (base := base) T
  have G_Run_come_back := ok_Run_come_back (P := P) (base := base) T
  refine T.F_Run_call.ok sc_Run_call (fun vs H Q E h => ?_) (fun cdv A outer s H vs Q E hr h => ?_)
  · obtain ⟨x, told, v, s, oth, p, c, wi, f, a, rfl, _⟩ := h
    rfl
  obtain ⟨x, told, v, s, oth, p, c, wi, f, a, rfl, hp, hR, hok, hc, hf, hv, ha, hphi, hoth, q⟩ := h
  refine ⟨_, (pss_cons (ps_if (pt_cmpR op_ge (Ov.pe_fldK (K := K) rfl (pv 0) rfl) (pe_glob (v := .int 12) (by rfl) T.i_MOST_OTHERS.choose_spec ⟨_, rfl⟩) (nomark _)) (pss_one (ps_raiseFlt rfl T.flt hr (takes_of rfl rfl rfl rfl) (by exact (pa_cons pe_str pa_nil)))) pss_nil)
      (pss_cons (ps_if (pt_cmpR op_ge (Ov.pe_fldK (K := K) rfl (pv 0) rfl) (pe_glob (v := .int 200) (by rfl) T.i_MOST_CALLS.choose_spec ⟨_, rfl⟩) (nomark _)) (pss_one (ps_raiseFlt rfl T.flt hr (takes_of rfl rfl rfl rfl) (by exact (pa_cons pe_str pa_nil)))) pss_nil)
      (pss_cons (ps_fldaug (pv 0) pe_int in_add)
      (pss_cons (ps_fldaug (pv 0) pe_int in_add)
      (pss_cons (ps_expr (pe_meth (pv 0) T.c_Run T.m_Run_enter G_Run_enter (hr.mono (by omega)) T.b_Run_enter .nil pass0 (pa_cons (pv 1) (pa_cons (pv 2) pa_nil))))
      (pss_cons (ps_set (i := 4) sc_Run_call.nd rfl (by first | exact Or.inl rfl | exact Or.inr rfl) (pe_meth (pv 0) T.c_Run T.m_Run_worth G_Run_worth (hr.mono (by omega)) T.b_Run_worth .nil (passes_call (takes_of rfl rfl rfl rfl) (fun _ _ _ _ z => z)) (pa_cons (pv 2) (pa_cons pe_int (pa_cons (pv 3) pa_nil)))))
      (pss_cons (ps_expr (pe_meth (pv 0) T.c_Run T.m_Run_come_back G_Run_come_back (hr.mono (by omega)) T.b_Run_come_back .nil pass0 (pa_cons (pv 1) pa_nil)))
      (pss_cons (ps_fldaug (pv 0) pe_int in_sub)
      (pss_one (ps_ret (pv 4))))))))))), ?_⟩
  refine ⟨_, rfl, x.a, _, _, _, _, rfl, hR.ob, T.c_Run, T.a_Run_others, rfl, _, _, rfl, rfl, _, rfl, ?_⟩
  rw [decide_eq_false (show ¬ (12 : Int) ≤ oth by omega)]
  refine iteF ⟨_, rfl, x.a, _, _, _, _, rfl, hR.ob, T.c_Run, T.a_Run_calls, rfl, _, _, rfl, rfl, _, rfl, ?_⟩
  obtain ⟨pf, hpf⟩ : ∃ p, pr[f]? = some p := ⟨_, List.getElem?_eq_getElem hf⟩
  rw [evC, hpf] at q
  by_cases h200 : 200 ≤ s.calls
  · rw [decide_eq_true (show (200 : Int) ≤ (s.calls : Int) by omega)]
    rw [if_pos h200] at q
    exact iteT ⟨_, rfl, fun d hd => q.out ButP.refl hR _ d (Same.new hd) hd upd_same⟩
  rw [decide_eq_false (show ¬ (200 : Int) ≤ (s.calls : Int) by omega)]
  rw [if_neg h200] at q
  refine iteF ?_
  have hse : s.row.length ≤ s.phi := by unfold RS.phi; omega
  refine ⟨_, rfl, x.a, _, _, _, _, rfl, hR.ob, T.c_Run, T.a_Run_calls, rfl, _, _, rfl, rfl, x.dx, _, hR.ob, by show 6 < 1000; decide, ?_⟩
  obtain ⟨r1, b1⟩ := hR.wr (told' := told) (oth' := oth) (c := s.calls + 1)
  rw [runFs_calls, show (s.calls : Int) + 1 = ((s.calls + 1 : Nat) : Int) by omega]
  generalize upd H x.a (.ins (He.ga K "Run") x.dx (runFs x told ((s.calls + 1 : Nat) : Int) oth)) = H1 at r1 b1 ⊢
  refine ⟨_, rfl, x.a, _, _, _, _, rfl, r1.ob, T.c_Run, T.a_Run_others, rfl, _, _, rfl, rfl, x.dx, _, r1.ob, by show 6 < 1000; decide, ?_⟩
  obtain ⟨r2, b2⟩ := r1.wr (told' := told) (oth' := oth + 1) (c := s.calls + 1)
  rw [runFs_others]
  generalize upd H1 x.a (.ins (He.ga K "Run") x.dx (runFs x told ((s.calls + 1 : Nat) : Int) (oth + 1))) = H2 at r2 b2 ⊢
  have b12 := b1.trans b2
  refine ⟨_, rfl, x.a, _, _, rfl, r2.ob, rfl, _, rfl, _, rfl, x, pr, told, .ref p, _, _, f, rfl, r2, Nat.le_trans hse hphi, fun H3 b3 r3 => ?_⟩
  have b13 := b12.trans b3
  have k13 := hR.keep b13
  have hbd := hok.f pf (List.mem_of_getElem? hpf)
  have hph : ({ said := s.said, calls := s.calls + 1, row := s.row ++ [f], came := s.came ++ [(f, a)], told := s.told } : RS).phi + pf.2.size ≤ s.phi - 2 ∧ 2 ≤ s.phi := by
    have := hbd.2.2.2
    unfold RS.phi
    simp only [List.length_append, List.length_singleton]
    omega
  have gd := evB_good (n := pr.length) (call := evC pr n f) (a := a) (fun f' u' s' h1 h2 => evC_good hok n f f' u' s' h1 h2) ha 7 pf.2 { said := s.said, calls := s.calls + 1, row := s.row ++ [f], came := s.came ++ [(f, a)], told := s.told } hbd.2.2.1
  replace gd := Good.le hph.1 gd
  simp only at q
  have r3' : RunAt K H3 x pr told { said := s.said, calls := s.calls + 1, row := s.row ++ [f], came := s.came ++ [(f, a)], told := s.told } (oth + 1) := ⟨r3.ob, r3.bo, r3.sa, r3.ro, r3.nd⟩
  refine ⟨_, rfl, x.a, _, _, rfl, r3.ob, rfl, _, rfl, _, rfl, x, told, v, _, oth + 1, f, 0, pf, pf.2, a, rfl, r3', hok, hpf, SubAt.all _, hbd.2.2.1, hv.keep k13, ha, by omega, by omega, ?_⟩
  generalize evB (evC pr n f) a 7 pf.2 _ = rs at q gd ⊢
  cases rs with
  | bad e s2 => exact fun H5 d oth' b5 r5 e5 => q H5 d oth' (b13.trans b5) r5 e5
  | ok v2 s2 =>
    intro H5 y b5 r5 hy
    have hs2 : s2.phi ≤ s.phi - 2 := gd.2
    have hse2 : s2.row.length ≤ s2.phi := by unfold RS.phi; omega
    have b15 := b13.trans b5
    refine ⟨_, rfl, x.a, _, _, rfl, r5.ob, rfl, _, rfl, x, pr, told, s2, oth + 1, p, c, wi, rfl, (hR.keep b15) _ _ hp, r5, by omega, fun H6 b6 r6 => ?_⟩
    have k6 := r5.keep b6
    refine ⟨_, rfl, x.a, _, _, _, _, rfl, r6.ob, T.c_Run, T.a_Run_others, rfl, _, _, rfl, rfl, x.dx, _, r6.ob, by show 6 < 1000; decide, ?_⟩
    obtain ⟨r7, b7⟩ := r6.wr (told' := told) (oth' := oth) (c := s2.calls)
    have k7 := r6.keep b7
    rw [runFs_others, show oth + 1 - 1 = oth by omega]
    exact ⟨_, rfl, q _ y (b15.trans (b6.trans b7)) ⟨r7.ob, r7.bo, r7.sa, r7.ro, r7.nd⟩ ((hy.keep k6).keep k7)⟩
end
end K07

namespace K07
open PySem PySem.Spec PyProof.Rows L2 Ov
section
variable {P : Program} {w : World} {K : PySem.W.Frag} {mg : Str → Option Value} {base : Heap}
theorem sc_Run_worth : FnScope ["self", "function", "word", "argument", "name", "given", "arms", "first", "worths", "arm"] ["self", "function", "word", "argument"] (defScope s_Run_worth) := ⟨rfl, rfl, rfl, by decide +kernel, rfl, by decide +kernel, by decide +kernel⟩
-- 0 self, 1 function, 2 word, 3 argument, 4 name, 5 given, 6 arms, 7 first, 8 worths, 9 arm
theorem ok_Run_worthS (T : Txt w K mg) {pr : List (Int × W)} {n d k : Nat} (G_Run_worth : FnOk P w K mg base (L2.CX P w) k (He.ma K (He.ga K "Run") "worth") (fdOf K d_Run_worth) ["self", "function", "word", "argument"] (spWorth K pr n d))
    (G_Run_call : FnOk P w K mg base (L2.CX P w) (8 * n + 5) (He.ma K (He.ga K "Run") "call") (fdOf K d_Run_call) ["self", "place", "called", "argument"] (spCallP K pr n)) (hk : 8 * n + 5 ≤ k) :
    FnOk P w K mg base (L2.CX P w) (k + 1) (He.ma K (He.ga K "Run") "worth") (fdOf K d_Run_worth) ["self", "function", "word", "argument"] (spWorth K pr n (d + 1)) := by
  have G_number_in := ok_number_in (P := P) (base := base) T
  have G_end_of_way := ok_end_of_way (P := P) (base := base) T
  have G_reckoned := ok_reckoned (P := P) (base := base) T
  have G_Run_say := ok_Run_say (P := P) (base := base) T
  refine T.F_Run_worth.ok sc_Run_worth (fun vs H Q E h => ?_) (fun cdv A outer s H vs Q E hr h => ?_)
  · obtain ⟨x, told, v, s, oth, f, wi, p, u, a, rfl, _⟩ := h
    rfl
  obtain ⟨x, told, v, s, oth, f, wi, p, u, a, rfl, hR, hok, hpf, hsub, hwk, hv, ha, hphi, hoth, q⟩ := h
  refine ⟨_, (pss_cons (ps_asg (pe_ix (r := rIxL K) ix_list (pe_ix (r := rIxL K) ix_list (Ov.pe_fldK (K := K) rfl (pv 0) rfl) (pv 1) (fun _ _ => rfl)) (pv 2) (fun _ _ => rfl)) (Ov.pg_tupK (K := K) (n := 3) rfl rfl (pgs_cons (pg_name (i := 4) sc_Run_worth.nd rfl (by first | exact Or.inl rfl | exact Or.inr rfl)) (pgs_cons (pg_name (i := 5) sc_Run_worth.nd rfl (by first | exact Or.inl rfl | exact Or.inr rfl)) (pgs_cons (pg_name (i := 6) sc_Run_worth.nd rfl (by first | exact Or.inl rfl | exact Or.inr rfl)) pgs_nil)))))
      (pss_cons (ps_if (pt_cmpR op_eq (pv 4) pe_str (nomark _)) (pss_one (ps_ret (pe_tup (pa_cons pe_str (pa_cons (pv 5) pa_nil))))) pss_nil)
      (pss_cons (ps_if (pt_cmpR op_eq (pv 4) pe_str (nomark _)) (pss_one (ps_ret (pe_tup (pa_cons pe_str (pa_cons (pv 5) pa_nil))))) pss_nil)
      (pss_cons (ps_if (pt_cmpR op_eq (pv 4) pe_str (nomark _)) (pss_one (ps_ret (pv 3))) pss_nil)
      (pss_cons (ps_if (pt_cmpR op_eq (pv 4) pe_str (nomark _)) (pss_cons (ps_set (i := 7) sc_Run_worth.nd rfl (by first | exact Or.inl rfl | exact Or.inr rfl) (pe_callS G_number_in (hr.mono (by omega)) (by rfl) T.g_number_in T.kp_number_in T.b_number_in (fun σ => passAt (takes_of rfl rfl rfl rfl) σ) (pa_cons (pe_meth (pv 0) T.c_Run T.m_Run_worth G_Run_worth (hr.mono (by omega)) T.b_Run_worth .nil (passes_call (takes_of rfl rfl rfl rfl) (fun _ _ _ _ z => z)) (pa_cons (pv 1) (pa_cons (pe_ix (r := rIxT K) ix_tup (pv 6) pe_int (fun _ _ => rfl)) (pa_cons (pv 3) pa_nil)))) pa_nil)))
      (pss_one (ps_ret (pe_meth (pv 0) T.c_Run T.m_Run_worth G_Run_worth (hr.mono (by omega)) T.b_Run_worth .nil (passes_call (takes_of rfl rfl rfl rfl) (fun _ _ _ _ z => z)) (pa_cons (pv 1) (pa_cons (pe_ifExp (pt_cmpR op_ne (pv 7) pe_int (nomark _)) (pe_ix (r := rIxT K) ix_tup (pv 6) pe_int (fun _ _ => rfl)) (pe_ix (r := rIxT K) ix_tup (pv 6) pe_int (fun _ _ => rfl))) (pa_cons (pv 3) pa_nil))))))) pss_nil)
      (pss_cons (Ov.ps_setLcX (i := 8) (own := [("arm", 9)]) (takes_of rfl rfl rfl rfl) (fun _ _ _ _ z => z) rfl rfl rfl sc_Run_worth.nd rfl rfl (sw_true rfl rfl rfl (by decide +kernel)) (Ov.pi_tupK (K := K) rfl (pv 6)) (blkOk_by (own := [("arm", 9)]) (N := ["self", "function", "word", "argument", "name", "given", "arms", "first", "worths", "arm"]) (sc := defScope s_Run_worth) (by decide +kernel)) (fun _ _ _ _ _ => (pg_name (i := 9) sc_Run_worth.nd rfl (by first | exact Or.inl rfl | exact Or.inr rfl))) (fun _ _ _ _ _ _ hx => (pe_meth (pv 0) T.c_Run T.m_Run_worth G_Run_worth (hr.mono (by omega)) T.b_Run_worth .nil hx (pa_cons (pv 1) (pa_cons (pv 9) (pa_cons (pv 3) pa_nil))))))
      (pss_cons (ps_if (pt_cmpR op_eq (pv 4) pe_str (nomark _)) (pss_one (ps_ret (pe_ix (r := rIxL K) ix_list (pv 8) pe_int (fun _ _ => rfl)))) pss_nil)
      (pss_cons (ps_if (pt_cmpR op_eq (pv 4) pe_str (nomark _)) (pss_one (ps_ret (pe_meth (pv 0) T.c_Run T.m_Run_say G_Run_say (hr.mono (by omega)) T.b_Run_say .nil (passes_call (takes_of rfl rfl rfl rfl) (fun _ _ _ _ z => z)) (pa_cons (pe_ix (r := rIxL K) ix_list (pv 8) pe_int (fun _ _ => rfl)) pa_nil)))) pss_nil)
      (pss_cons (ps_if (pt_cmpR op_eq (pv 4) pe_str (nomark _)) (pss_one (ps_ret (pe_meth (pv 0) T.c_Run T.m_Run_call G_Run_call (hr.mono (by omega)) T.b_Run_call .nil (passes_call (takes_of rfl rfl rfl rfl) (fun _ _ _ _ z => z)) (pa_cons (pe_tup (pa_cons (pv 1) (pa_cons (pv 2) pa_nil))) (pa_cons (pv 5) (pa_cons (pe_ix (r := rIxL K) ix_list (pv 8) pe_int (fun _ _ => rfl)) pa_nil)))))) pss_nil)
      (pss_cons (ps_if (pt_cmpR op_eq (pv 4) pe_str (nomark _)) (pss_one (ps_ret (pe_meth (pv 0) T.c_Run T.m_Run_call G_Run_call (hr.mono (by omega)) T.b_Run_call .nil (passes_call (takes_of rfl rfl rfl rfl) (fun _ _ _ _ z => z)) (pa_cons (pe_tup (pa_cons (pv 1) (pa_cons (pv 2) pa_nil))) (pa_cons (pe_callS G_end_of_way (hr.mono (by omega)) (by rfl) T.g_end_of_way T.kp_end_of_way T.b_end_of_way (fun σ => passAt (takes_of rfl rfl rfl rfl) σ) (pa_cons (pe_ix (r := rIxL K) ix_list (pv 8) pe_int (fun _ _ => rfl)) pa_nil)) (pa_cons (pe_ix (r := rIxL K) ix_list (pv 8) pe_int (fun _ _ => rfl)) pa_nil)))))) pss_nil)
      (pss_one (ps_ret (pe_call G_reckoned (hr.mono (by omega)) (by rfl) T.g_reckoned T.kp_reckoned T.b_reckoned .nil pass0 (pa_cons (pv 4) (pa_cons (pe_callS G_number_in (hr.mono (by omega)) (by rfl) T.g_number_in T.kp_number_in T.b_number_in (fun σ => passAt (takes_of rfl rfl rfl rfl) σ) (pa_cons (pe_ix (r := rIxL K) ix_list (pv 8) pe_int (fun _ _ => rfl)) pa_nil)) (pa_cons (pe_callS G_number_in (hr.mono (by omega)) (by rfl) T.g_number_in T.kp_number_in T.b_number_in (fun σ => passAt (takes_of rfl rfl rfl rfl) σ) (pa_cons (pe_ix (r := rIxL K) ix_list (pv 8) pe_int (fun _ _ => rfl)) pa_nil)) pa_nil)))))))))))))))), ?_⟩
  obtain ⟨o, g, as⟩ := u
  cases hwk with
  | mk h1 h2 h3 =>
  obtain ⟨bs, hbo, hbs, hbn⟩ := hR.bo
  obtain ⟨b, hb, ys, hys, hrows⟩ := Paired.got hbs hpf
  have hrow := hsub.row
  obtain ⟨rv, hrv, t, aa, rfl, ht, haa⟩ := Paired.got hrows hrow
  have hfl := (List.getElem?_eq_some_iff.mp hpf).1
  refine ⟨_, rfl, x.a, _, _, _, _, rfl, hR.ob, T.c_Run, T.a_Run_bodies, rfl, _, rfl, x.bo, _, _, _, rfl, rfl, SqL.of hbo, atI_nat (by rw [List.getElem?_map, hb]; rfl), _, rfl, b, _, _, _, rfl, rfl, SqL.of hys, atI_nat hrv, t, _, rfl, SqT.of ht, rfl, _, _, rfl, _, _, rfl, _, _, rfl, rfl, ?_⟩
  have hal : as.length = o.arity := h1
  -- words without arms
  by_cases c1 : o = .num
  · subst c1
    refine ⟨_, rfl, rfl, _, rfl, iteT ⟨_, rfl, sml 2, fun t2 ht2 => ?_⟩⟩
    exact q _ _ (ButP.same (Same.new ht2)) (hR.same (Same.new ht2)) ⟨t2, rfl, upd_same⟩
  refine ⟨_, rfl, rfl, _, rfl, ?_⟩
  rw [show decide (V.str o.name = V.str "num") = false by cases o <;> first | decide +kernel | exact absurd rfl c1]
  refine iteF ?_
  by_cases c2 : o = .way
  · subst c2
    refine ⟨_, rfl, rfl, _, rfl, iteT ⟨_, rfl, sml 2, fun t2 ht2 => ?_⟩⟩
    refine q _ _ (ButP.same (Same.new ht2)) (hR.same (Same.new ht2)) ⟨t2, rfl, ?_⟩
    have hg : 0 ≤ g ∧ g < pr.length := h2
    rw [upd_same]
    show some (HO.tup [V.str "way", V.int g]) = some (HO.tup [V.str "way", V.int ((g.toNat : Nat) : Int)])
    rw [show ((g.toNat : Nat) : Int) = g by omega]
  refine ⟨_, rfl, rfl, _, rfl, ?_⟩
  rw [show decide (V.str o.name = V.str "way") = false by cases o <;> first | decide +kernel | exact absurd rfl c2]
  refine iteF ?_
  by_cases c3 : o = .arg
  · subst c3
    exact ⟨_, rfl, rfl, _, rfl, iteT ⟨_, rfl, q _ _ ButP.refl hR hv⟩⟩
  refine ⟨_, rfl, rfl, _, rfl, ?_⟩
  rw [show decide (V.str o.name = V.str "argument") = false by cases o <;> first | decide +kernel | exact absurd rfl c3]
  refine iteF ?_
  have ssz : 1 + W.sizes as = (W.mk o g as).size := (W.size_mk o g as).symm
  by_cases c4 : o = .ife
  · subst c4
    obtain ⟨wt, wx, wy, rfl⟩ := three_of hal
    obtain ⟨k0, e0, s0⟩ := hsub.arm (j := 0) (a := wt) rfl
    obtain ⟨k1, e1, s1⟩ := hsub.arm (j := 1) (a := wx) rfl
    obtain ⟨k2, e2, s2⟩ := hsub.arm (j := 2) (a := wy) rfl
    have szs : W.sizes [wt, wx, wy] = wt.size + (wx.size + (wy.size + 0)) := by simp only [W.sizes]
    rw [evB_if] at q
    refine ⟨_, rfl, rfl, _, rfl, iteT ?_⟩
    have gd := evB_good (n := pr.length) (call := evC pr n f) (a := a) (fun f' u' s' h1 h2 => evC_good hok n f f' u' s' h1 h2) ha d wt s (h3 wt (by simp))
    refine ⟨_, rfl, x.a, _, _, rfl, hR.ob, rfl, _, rfl, _, rfl, aa, _, 0, _, rfl, rfl, SqT.of haa, atI_nat (nV_get e0), _, rfl, x, told, v, s, oth, f, k0, p, wt, a, rfl, hR, hok, hpf, s0, h3 wt (by simp), hv, ha, by omega, hoth, ?_⟩
    generalize evB (evC pr n f) a d wt s = r0 at q gd ⊢
    cases r0 with
    | bad e s5 => exact fun H5 dd oth' b5 r5 e5 => q H5 dd oth' b5 r5 e5
    | ok v0 s5 =>
      intro H5 y b5 r5 hy
      have hs5 : s5.phi ≤ s.phi + wt.size := gd.2
      refine ⟨y, v0, rfl, hy, ?_⟩
      have k5 := hR.keep b5
      cases v0 with
      | way f' => exact AnsP.out (f := .kind) (s := s5) q b5 r5
      | num z =>
        have q : AnsP K x pr told oth H Q E (if z ≠ 0 then evB (evC pr n f) a d wx s5 else evB (evC pr n f) a d wy s5) := q
        refine ⟨_, rfl, x.a, _, _, rfl, r5.ob, rfl, _, rfl, _, rfl, rfl, _, rfl, ?_⟩
        show if (!decide (V.int z = V.int 0)) = true then _ else _
        by_cases hz : z = 0
        · subst hz
          rw [if_neg (by simp)] at q
          rw [decide_eq_true (rfl : V.int 0 = V.int 0)]
          exact iteF ⟨_, rfl, aa, _, 2, _, rfl, rfl, SqT.of (k5 _ _ haa), atI_nat (nV_get e2), _, rfl, x, told, v, s5, oth, f, k2, p, wy, a, rfl, r5, hok, hpf, s2, h3 wy (by simp), hv.keep k5, ha, by omega, hoth, AnsP.but b5 q⟩
        · rw [if_pos hz] at q
          rw [decide_eq_false (fun e => hz (V.int.inj e) : ¬ V.int z = V.int 0)]
          exact iteT ⟨_, rfl, aa, _, 1, _, rfl, rfl, SqT.of (k5 _ _ haa), atI_nat (nV_get e1), _, rfl, x, told, v, s5, oth, f, k1, p, wx, a, rfl, r5, hok, hpf, s1, h3 wx (by simp), hv.keep k5, ha, by omega, hoth, AnsP.but b5 q⟩
  refine ⟨_, rfl, rfl, _, rfl, ?_⟩
  rw [show decide (V.str o.name = V.str "if") = false by cases o <;> first | decide +kernel | exact absurd rfl c4]
  refine iteF ?_
  rw [evB_gen c1 c2 c3 c4] at q
  -- the arms
  refine ⟨_, rfl, aa, rfl, ⟨_, SqT.of haa⟩, fun D hD => ?_⟩
  have nDa : D ≠ x.a := (ne_of_none hR.ob hD).symm
  have nDs : D ≠ x.sa := (ne_of_none hR.sa hD).symm
  have nDr : D ≠ x.ro := (ne_of_none hR.ro hD).symm
  have stl : (nV (starts (wi + 1) as)).length = as.length := by rw [nV_len, starts_len]
  refine lc_tupY (K := K) (a := aa) (xs := nV (starts (wi + 1) as)) (fun i H' => ∃ (si : RS) (vsi : List Wt) (us : List V), ButP x H H' ∧ RunAt K H' x pr told si oth ∧ H' D = some (.lst us) ∧ Paired (PV H') us vsi ∧ vsi.length = i ∧ (∀ u ∈ vsi, WtOk pr.length u) ∧ si.phi ≤ s.phi + W.sizes (as.take i) ∧ AnsP K x pr told oth H Q E (evArms (evB (evC pr n f) a d) (as.drop i) vsi si (fin (evC pr n f) o g)))
    ⟨s, [], [], ButP.same (Same.new hD), hR.same (Same.new hD), upd_same, .nil, rfl, (fun _ z => nomatch z), by rw [List.take_zero, W.sizes]; exact Nat.le_refl _, by rw [List.drop_zero]; exact q⟩ (fun i H' _ ⟨_, _, _, b, _⟩ => SqT.of (hR.keep b _ _ haa)) ?_ ?_
  · rintro i y Hi hi ⟨si, vsi, us, bi, ri, eDi, hvi, hvl, hvo, hsi, qi⟩
    have hil : i < as.length := by
      have := (List.getElem?_eq_some_iff.mp hi).1
      rw [stl] at this
      exact this
    obtain ⟨ai, hai⟩ : ∃ ai, as[i]? = some ai := ⟨_, List.getElem?_eq_getElem hil⟩
    obtain ⟨ki, eki, subi⟩ := hsub.arm (j := i) (a := ai) hai
    obtain rfl : y = .int (ki : Int) := Option.some.inj (hi.symm.trans (nV_get eki))
    have wki := h3 ai (List.mem_of_getElem? hai)
    have szi := size_get as i ai hai
    have ki' := hR.keep bi
    rw [drop_get hai] at qi
    have gd := evB_good (n := pr.length) (call := evC pr n f) (a := a) (fun f' u' s' h1 h2 => evC_good hok n f f' u' s' h1 h2) ha d ai si wki
    refine ⟨rfl, _, rfl, x.a, _, _, rfl, ri.ob, rfl, _, rfl, _, rfl, _, rfl, x, told, v, si, oth, f, ki, p, ai, a, rfl, ri, hok, hpf, subi, wki, hv.keep ki', ha, by omega, hoth, ?_⟩
    have qi : AnsP K x pr told oth H Q E ((evB (evC pr n f) a d ai si).bind fun v s => evArms (evB (evC pr n f) a d) (as.drop (i + 1)) (vsi ++ [v]) s (fin (evC pr n f) o g)) := qi
    generalize evB (evC pr n f) a d ai si = r0 at qi gd ⊢
    cases r0 with
    | bad e s5 => exact fun H5 dd oth' b5 r5 e5 => qi H5 dd oth' (bi.trans b5) r5 e5
    | ok v0 s5 =>
      intro H5 y b5 r5 hy
      have hs5 : s5.phi ≤ si.phi + ai.size := gd.2
      have eD5 := b5 _ _ nDa nDs nDr eDi
      have k5 := ri.keep b5
      have bi5 := bi.trans b5
      have kD := Keep.updL (ys := us ++ [y]) eD5
      have ul := Paired.length hvi
      have ar3 : o.arity ≤ 3 := by cases o <;> decide
      refine ⟨us, eD5, sm _ (by omega), s5, vsi ++ [v0], us ++ [y], bi5.updn hD, RunAt.fresh hR hD bi5 r5 eD5, upd_same, PySem.Paired.snoc (L2.Paired.mapP hvi fun _ _ z => (z.keep k5).keep kD) (hy.keep kD), by rw [List.length_append, List.length_singleton, hvl], fun u hu => ?_, ?_, qi⟩
      · rcases List.mem_append.mp hu with hu | hu
        · exact hvo u hu
        · rw [List.mem_singleton.mp hu]
          exact gd.1
      · have : as.take (i + 1) = as.take i ++ [ai] := by
          rw [List.take_add_one, hai]
          rfl
        rw [this, W.sizes_snoc]
        omega
  rintro Hn ⟨sn, vs, us, bn, rn, eD, hvs, hvl, hvo, hsn, qn⟩
  rw [stl] at hvl hsn qn
  rw [List.take_length] at hsn
  rw [List.drop_length] at qn
  have q : AnsP K x pr told oth H Q E (fin (evC pr n f) o g vs sn) := qn
  clear qn
  have kn := hR.keep bn
  have hvk : PV Hn v a := hv.keep kn
  have phn : sn.phi ≤ most := by omega
  have at0 : ∀ {u : V} {r : List V}, us = u :: r → atI us (0 : Int) = some u := fun e => by
    rw [e]
    exact atI_nat (j := 0) rfl
  by_cases c5 : o = .thn
  · subst c5
    obtain ⟨l1, l2, u1, u2, rfl, rfl, hp1, hp2⟩ := paired_two hvs (by rw [hvl, hal]; rfl)
    exact ⟨_, rfl, rfl, _, rfl, iteT ⟨_, rfl, D, _, 1, _, rfl, rfl, SqL.of eD, atI_nat (j := 1) rfl, q Hn l2 bn rn hp2⟩⟩
  refine ⟨_, rfl, rfl, _, rfl, ?_⟩
  rw [show decide (V.str o.name = V.str "then") = false by cases o <;> first | decide +kernel | exact absurd rfl c5]
  refine iteF ?_
  by_cases c6 : o = .say
  · subst c6
    obtain ⟨l1, u1, rfl, rfl, hp1⟩ := one_of hvs (by rw [hvl, hal]; rfl)
    have hsl : sn.said.length ≤ sn.phi := by unfold RS.phi; omega
    refine ⟨_, rfl, rfl, _, rfl, iteT ⟨_, rfl, x.a, _, _, rfl, rn.ob, rfl, _, rfl, D, _, 0, _, rfl, rfl, SqL.of eD, atI_nat (j := 0) rfl, x, pr, told, l1, sn, oth, u1, rfl, rn, hp1, by omega, ?_⟩⟩
    cases u1 with
    | num z => exact fun H' b r => q H' l1 (bn.trans b) r (hp1.keep (rn.keep b))
    | way f' => exact AnsP.out (f := .kind) (s := sn) q bn rn
  refine ⟨_, rfl, rfl, _, rfl, ?_⟩
  rw [show decide (V.str o.name = V.str "say") = false by cases o <;> first | decide +kernel | exact absurd rfl c6]
  refine iteF ?_
  by_cases c7 : o = .call
  · subst c7
    obtain ⟨l1, u1, rfl, rfl, hp1⟩ := one_of hvs (by rw [hvl, hal]; rfl)
    have hg : 0 ≤ g ∧ g < pr.length := h2
    refine ⟨_, rfl, rfl, _, rfl, iteT ⟨_, rfl, x.a, _, _, rfl, rn.ob, rfl, _, rfl, _, rfl, sml 2, fun t2 ht2 => ?_⟩⟩
    have s2 := Same.new (o := .tup [.int (f : Int), .int (wi : Int)]) ht2
    refine ⟨_, rfl, _, rfl, D, _, 0, _, rfl, rfl, SqL.of (s2 _ _ eD), atI_nat (j := 0) rfl, x, told, l1, sn, oth, t2, f, wi, g.toNat, u1, ?_, upd_same, rn.same s2, hok, hfl, by omega, hp1.keep (Keep.same s2), hvo u1 (by simp), phn, hoth, AnsP.but (bn.trans (ButP.same s2)) q⟩
    show [V.ref x.a, V.ref t2, V.int g, l1] = [V.ref x.a, V.ref t2, V.int ((g.toNat : Nat) : Int), l1]
    rw [show ((g.toNat : Nat) : Int) = g by omega]
  refine ⟨_, rfl, rfl, _, rfl, ?_⟩
  rw [show decide (V.str o.name = V.str "call") = false by cases o <;> first | decide +kernel | exact absurd rfl c7]
  refine iteF ?_
  by_cases c8 : o = .through
  · subst c8
    obtain ⟨l1, l2, u1, u2, rfl, rfl, hp1, hp2⟩ := paired_two hvs (by rw [hvl, hal]; rfl)
    refine ⟨_, rfl, rfl, _, rfl, iteT ⟨_, rfl, x.a, _, _, rfl, rn.ob, rfl, _, rfl, _, rfl, sml 2, fun t2 ht2 => ?_⟩⟩
    have s2 := Same.new (o := .tup [.int (f : Int), .int (wi : Int)]) ht2
    refine ⟨_, rfl, D, _, 0, _, rfl, rfl, SqL.of (s2 _ _ eD), atI_nat (j := 0) rfl, l1, u1, rfl, hp1.keep (Keep.same s2), ?_⟩
    cases u1 with
    | num z => exact AnsP.out (f := .kind) (s := sn) q (bn.trans (ButP.same s2)) (rn.same s2)
    | way f' => exact ⟨_, rfl, D, _, 1, _, rfl, rfl, SqL.of (s2 _ _ eD), atI_nat (j := 1) rfl, x, told, l2, sn, oth, t2, f, wi, f', u2, rfl, upd_same, rn.same s2, hok, hfl, hvo (.way f') (by simp), hp2.keep (Keep.same s2), hvo u2 (by simp), phn, hoth, AnsP.but (bn.trans (ButP.same s2)) q⟩
  refine ⟨_, rfl, rfl, _, rfl, ?_⟩
  rw [show decide (V.str o.name = V.str "through") = false by cases o <;> first | decide +kernel | exact absurd rfl c8]
  refine iteF ?_
  have ho : o = .plus ∨ o = .less ∨ o = .times := by cases o <;> simp_all
  have har : o.arity = 2 := by rcases ho with rfl | rfl | rfl <;> rfl
  obtain ⟨l1, l2, u1, u2, rfl, rfl, hp1, hp2⟩ := paired_two hvs (by rw [hvl, hal, har])
  have hbad : ∀ {f' : Nat}, Wt.way f' ∈ [u1, u2] → fin (evC pr n f) o g [u1, u2] sn = .bad .kind sn := fun h => fin_bad h (Nat.le_refl 2) (.inr ho)
  refine ⟨_, rfl, _, rfl, D, _, 0, _, rfl, rfl, SqL.of eD, atI_nat (j := 0) rfl, l1, u1, rfl, hp1, ?_⟩
  cases u1 with
  | way f' =>
    rw [hbad (f' := f') (by simp)] at q
    exact AnsP.out (f := .kind) (s := sn) q bn rn
  | num z1 =>
    refine ⟨_, rfl, D, _, 1, _, rfl, rfl, SqL.of eD, atI_nat (j := 1) rfl, l2, u2, rfl, hp2, ?_⟩
    cases u2 with
    | way f' =>
      rw [hbad (f' := f') (by simp)] at q
      exact AnsP.out (f := .kind) (s := sn) q bn rn
    | num z2 =>
      have w1 : 0 ≤ z1 ∧ z1 < 1000 := hvo (.num z1) (by simp)
      refine ⟨o, z1, z2, rfl, ho, w1.1, w1.2, fun H' t2 z s2 ht2 e2 hfin => ?_⟩
      rw [hfin] at q
      exact q H' _ (bn.trans (ButP.same s2)) (rn.same s2) ⟨t2, rfl, e2⟩
theorem ok_Run_worth0 (T : Txt w K mg) {pr : List (Int × W)} {n k : Nat} : FnOk P w K mg base (L2.CX P w) k (He.ma K (He.ga K "Run") "worth") (fdOf K d_Run_worth) ["self", "function", "word", "argument"] (spWorth K pr n 0) :=
  ⟨fun vs H Q E ⟨_, _, _, _, _, _, _, _, _, _, _, _, _, _, _, h, _⟩ => absurd h wok0, fun _ _ _ _ _ _ _ _ _ _ _ _ _ ⟨_, _, _, _, _, _, _, _, _, _, _, _, _, _, _, h, _⟩ => absurd h wok0⟩
theorem ok_Run_worthD (T : Txt w K mg) {pr : List (Int × W)} {n : Nat} (G : FnOk P w K mg base (L2.CX P w) (8 * n + 5) (He.ma K (He.ga K "Run") "call") (fdOf K d_Run_call) ["self", "place", "called", "argument"] (spCallP K pr n)) : ∀ d, FnOk P w K mg base (L2.CX P w) (8 * n + 5 + d) (He.ma K (He.ga K "Run") "worth") (fdOf K d_Run_worth) ["self", "function", "word", "argument"] (spWorth K pr n d)
  | 0 => ok_Run_worth0 T
  | d + 1 => ok_Run_worthS T (ok_Run_worthD T G d) G (Nat.le_add_right _ _)
theorem ok_Run_callN (T : Txt w K mg) {pr : List (Int × W)} : ∀ n, FnOk P w K mg base (L2.CX P w) (8 * n + 5) (He.ma K (He.ga K "Run") "call") (fdOf K d_Run_call) ["self", "place", "called", "argument"] (spCallP K pr n)
  | 0 => ok_Run_call0 T ⟨fun _ _ _ _ h => h.elim, fun _ _ _ _ _ _ _ _ _ _ _ _ _ h => h.elim⟩
  | n + 1 => ok_Run_callS T (ok_Run_worthD T (ok_Run_callN T n) 7) (by omega)
/-- function 0's body, twelve more within one another -/
theorem ok_Run_worth (T : Txt w K mg) {pr : List (Int × W)} : FnOk P w K mg base (L2.CX P w) 108 (He.ma K (He.ga K "Run") "worth") (fdOf K d_Run_worth) ["self", "function", "word", "argument"] (spWorth K pr 12 7) := ok_Run_worthD T (ok_Run_callN T 12) 7
end
end K07

namespace K07
open PySem PySem.Spec PyProof.Rows L2 Ov
section
variable {P : Program} {w : World} {K : PySem.W.Frag} {mg : Str → Option Value} {base : Heap}
theorem sc_Run_begin : FnScope ["self", "number", "fault"] ["self", "number"] (defScope s_Run_begin) := ⟨rfl, rfl, rfl, by decide +kernel, rfl, by decide +kernel, by decide +kernel⟩
-- 0 self, 1 number, 2 fault
theorem ok_Run_begin (T : Txt w K mg) : FnOk P w K mg base CX0 109 (He.ma K (He.ga K "Run") "begin") (fdOf K d_Run_begin) ["self", "number"] (spBegin K) := by
  refine ⟨fun vs H Q E h => ?_, ?_⟩
  · obtain ⟨x, pr, z, rfl, _⟩ := h
    rfl
  intro A outer s H args us vs Q E hr h1 h2 h3 h4
  obtain ⟨x, pr, z, e, r⟩ := h4
  have G_Run_enter := ok_Run_enter (P := P) (base := base) T
  have G_Run_worth := ok_Run_worth (P := P) (base := base) T (pr := pr)
  refine FnOk.run (sp := fun vs H Q E => ∃ (x : PA) (z : Int), vs = [.ref x.a, .int z] ∧ RunAt K H x pr .non ⟨[], 0, [], [], []⟩ 0 ∧ PrOk pr ∧ 0 ≤ z ∧ z < 1000 ∧
    ∀ H' t oth, ButP x H H' → RunAt K H' x pr (.ref t) (evR pr z).st oth → H' t = some (.tup [.str (endD (evR pr z)).1, (endD (evR pr z)).2]) → Q .non H') (T.F_Run_begin.ok sc_Run_begin (fun vs H Q E h => ?_) (fun cdv A outer s H vs Q E hr h => ?_)) A outer s H args us vs Q E hr h1 h2 h3 ⟨x, z, e, r⟩
  · obtain ⟨x, z, rfl, _⟩ := h
    rfl
  obtain ⟨x, z, rfl, hR, hok, hz0, hz1, q⟩ := h
  refine ⟨_, PSs.nox (pss_one (ps_try_as (i := 2) rfl rfl sc_Run_begin.nd rfl rfl ⟨rfl, by decide, .inl T.g_Fault⟩ takes0 (fun W pn xe tk _ => (pss_cons (ps_expr (pe_meth (pv 0) T.c_Run T.m_Run_enter G_Run_enter (hr.mono (by omega)) T.b_Run_enter .nil pass0 (pa_cons pe_non (pa_cons pe_int pa_nil))))
      (pss_one (Ov.ps_fldK (K := K) rfl (pv 0) (Ov.pe_methAt (pv 0) T.c_Run T.m_Run_worth G_Run_worth (hr.mono (by omega)) T.b_Run_worth (fun σ => passAt tk σ) (pa_cons pe_int (pa_cons pe_int (pa_cons (pe_tup (pa_cons pe_str (pa_cons (pv 1) pa_nil))) pa_nil)))) rfl)))) (fun a oe cls d pn hz hf => (pss_one (Ov.ps_fldK (K := K) rfl (pv 0) (pe_tup (pa_cons pe_str (pa_cons (pe_byFlt T.flt hz hf (pv 2)) pa_nil))) rfl))))), ?_⟩
  obtain ⟨p, hp⟩ : ∃ p, pr[0]? = some p := ⟨_, List.getElem?_eq_getElem (by have := hok.l1; omega)⟩
  have hbd := hok.f p (List.mem_of_getElem? hp)
  unfold evR at q
  rw [hp] at q
  refine ⟨_, rfl, x.a, _, _, rfl, hR.ob, rfl, x, pr, .non, .non, _, 0, 0, rfl, hR, Nat.zero_le _, fun H1 b1 r1 => ?_⟩
  have b0 : ({ said := [], calls := 0, row := [0], came := [(0, .num z)], told := [] } : RS).phi + p.2.size ≤ most := by
    have := hbd.2.2.2
    unfold RS.phi most
    simp only [List.length_cons, List.length_nil]
    omega
  refine ⟨_, rfl, x.a, _, _, rfl, r1.ob, rfl, _, rfl, sml 2, fun t ht => ?_⟩
  have st := Same.new (o := .tup [.str "number", .int z]) ht
  have et : upd H1 t (.tup [.str "number", .int z]) t = some (.tup [.str "number", .int z]) := upd_same
  have r2 := r1.same st
  generalize upd H1 t (.tup [.str "number", .int z]) = H2 at st et r2 ⊢
  have b2 := b1.trans (ButP.same st)
  have r2' : RunAt K H2 x pr .non { said := [], calls := 0, row := [0], came := [(0, .num z)], told := [] } 0 := ⟨r2.ob, r2.bo, r2.sa, r2.ro, r2.nd⟩
  refine ⟨x, .non, .ref t, _, 0, 0, 0, p, p.2, .num z, rfl, r2', hok, hp, SubAt.all _, hbd.2.2.1, ⟨t, rfl, et⟩, ⟨hz0, hz1⟩, b0, rfl, ?_⟩
  simp only at q
  generalize evB (evC pr 12 0) (.num z) 7 p.2 _ = rs at q ⊢
  cases rs with
  | ok v s2 =>
    intro H5 y b5 r5 hy
    obtain ⟨r6, b6⟩ := r5.wr (told' := y) (oth' := 0) (c := s2.calls)
    have k6 := r5.keep b6
    obtain ⟨t5, rfl, e5⟩ := hy
    refine ⟨_, rfl, x.a, _, x.dx, _, rfl, r5.ob, T.c_Run, T.a_Run_told, by show 6 < 1000; decide, ?_⟩
    rw [runFs_told]
    refine q _ t5 0 (b2.trans (b5.trans b6)) ⟨r6.ob, r6.bo, r6.sa, r6.ro, r6.nd⟩ ?_
    rw [k6 _ _ e5]
    cases v <;> rfl
  | bad f s2 =>
    intro H5 d oth' b5 r5 e5
    refine ⟨true, T.flt.te, fun _ ea hea => ?_, fun z => nomatch z⟩
    refine ⟨_, rfl, rfl, rfl, d, _, rfl, e5, sml 2, fun t6 ht6 => ?_⟩
    have s6 := Same.new (o := .tup [.str "fault", .str f.name]) ht6
    have e6 : upd H5 t6 (.tup [.str "fault", .str f.name]) t6 = some (.tup [.str "fault", .str f.name]) := upd_same
    have r6 := r5.same s6
    generalize upd H5 t6 (.tup [.str "fault", .str f.name]) = H6 at s6 e6 r6 ⊢
    obtain ⟨r7, b7⟩ := r6.wr (told' := .ref t6) (oth' := oth') (c := s2.calls)
    have k7 := r6.keep b7
    refine ⟨_, rfl, x.a, _, x.dx, _, rfl, r6.ob, T.c_Run, T.a_Run_told, by show 6 < 1000; decide, ?_⟩
    rw [runFs_told]
    exact q _ t6 oth' (b2.trans (b5.trans ((ButP.same s6).trans b7))) ⟨r7.ob, r7.bo, r7.sa, r7.ro, r7.nd⟩ (k7 _ _ e6)
end
end K07

namespace K07
open PySem PySem.Spec PyProof.Rows L2 Ov
section
variable {P : Program} {w : World} {K : PySem.W.Frag} {mg : Str → Option Value} {base : Heap}
theorem sc_check_number : FnScope ["number"] ["number"] (defScope s_check_number) := ⟨rfl, rfl, rfl, by decide +kernel, rfl, by decide +kernel, by decide +kernel⟩
-- 0 number
theorem ok_check_number (T : Txt w K mg) : FnOk P w K mg base CX0 2 (He.ga K "check_number") (fdOf K d_check_number) ["number"] spCheckNumber := by
  have G_between := ok_between (P := P) (base := base) T
  refine T.F_check_number.ok sc_check_number (fun vs H Q E h => ?_) (fun cdv A outer s H vs Q E hr h => ?_)
  · obtain ⟨z, rfl, _⟩ := h
    rfl
  obtain ⟨z, rfl, h1, h2, q⟩ := h
  refine ⟨_, PSs.nox (pss_one (ps_if (pt_not (pt_val (pe_call G_between (hr.mono (by omega)) (by rfl) T.g_between T.kp_between T.b_between .nil pass0 (pa_cons (pv 0) (pa_cons pe_int (pa_cons (pe_op op_sub (pe_glob (v := .int 1000) (by rfl) T.i_NUMBERS.choose_spec ⟨_, rfl⟩) pe_int) pa_nil)))))) (pss_one ps_never) pss_nil)), ?_⟩
  refine ⟨_, rfl, 1000, 1, rfl, rfl, z, 0, _, rfl, _, rfl, ?_⟩
  rw [decide_eq_true (show (0 : Int) ≤ z ∧ z ≤ 1000 - 1 from ⟨h1, by omega⟩)]
  exact iteF q
theorem sc_plain_run : FnScope ["program", "number", "done"] ["program", "number"] (defScope s_plain_run) := ⟨rfl, rfl, rfl, by decide +kernel, rfl, by decide +kernel, by decide +kernel⟩
-- 0 program, 1 number, 2 done
theorem ok_plain_run (T : Txt w K mg) : FnOk P w K mg base CX0 110 (He.ga K "plain_run") (fdOf K d_plain_run) ["program", "number"] (spPlainRun K) := by
  have G_check_program := ok_check_program (P := P) (base := base) T
  have G_check_number := ok_check_number (P := P) (base := base) T
  have G_Run_init := ok_Run_init (P := P) (base := base) T
  have G_Run_begin := ok_Run_begin (P := P) (base := base) T
  refine T.F_plain_run.ok sc_plain_run (fun vs H Q E h => ?_) (fun cdv A outer s H vs Q E hr h => ?_)
  · obtain ⟨v, pr, z, rfl, _⟩ := h
    rfl
  obtain ⟨v, pr, z, rfl, hpr, hok, hz0, hz1, q⟩ := h
  refine ⟨_, PSs.nox (pss_cons (ps_expr (pe_call G_check_program (hr.mono (by omega)) (by rfl) T.g_check_program T.kp_check_program T.b_check_program .nil pass0 (pa_cons (pv 0) pa_nil)))
      (pss_cons (ps_expr (pe_call G_check_number (hr.mono (by omega)) (by rfl) T.g_check_number T.kp_check_number T.b_check_number .nil pass0 (pa_cons (pv 1) pa_nil)))
      (pss_cons (ps_set (i := 2) sc_plain_run.nd rfl (by first | exact Or.inl rfl | exact Or.inr rfl) (pe_make T.k_Run G_Run_init (hr.mono (by omega)) (by rfl) T.g_Run T.b_Run_init .nil pass0 (pa_cons (pv 0) pa_nil)))
      (pss_cons (ps_expr (pe_meth (pv 2) T.c_Run T.m_Run_begin G_Run_begin (hr.mono (by omega)) T.b_Run_begin .nil pass0 (pa_cons (pv 1) pa_nil)))
      (pss_one (ps_ret (pv 2))))))), ?_⟩
  refine ⟨_, rfl, v, pr, rfl, hpr, hok, fun H1 s1 => ?_⟩
  refine ⟨_, rfl, z, rfl, hz0, hz1, ?_⟩
  refine ⟨_, rfl, fun a dx ha hdx nd => ?_⟩
  have sH : Same H1 (upd (upd H1 dx (.own a)) a (.ins (He.ga K "Run") dx [])) := (Same.new hdx).trans (Same.new (by rw [upd_ne nd.symm]; exact ha))
  refine ⟨a, dx, v, pr, rfl, upd_same, hpr.keep (Keep.same (s1.trans sH)), hok, fun H2 x f2 ex edx h1 h2 hR => ⟨rfl, ?_⟩⟩
  have s2 : Same H1 H2 := fun b o e => f2 b o (ne_of_none e ha) (sH _ _ e)
  have g1 := Same.free sH h1
  have g2 := Same.free sH h2
  clear f2 sH h1 h2
  subst ex
  refine ⟨_, rfl, x.a, _, _, rfl, hR.ob, rfl, _, rfl, x, pr, z, rfl, hR, hok, hz0, hz1, fun H3 t oth b3 r3 e3 => ?_⟩
  have s3 : Same H H3 := fun b o e => b3 b o (ne_of_none (s1 _ _ e) ha) (ne_of_none (s1 _ _ e) g1) (ne_of_none (s1 _ _ e) g2) (s2 _ _ (s1 _ _ e))
  exact ⟨_, rfl, q H3 x t oth s3 (Same.free s1 g1) (Same.free s1 g2) r3 e3⟩
end
end K07

namespace K07
open PySem PySem.Spec PyProof.Rows L2 Ov
section
variable {P : Program} {w : World} {K : PySem.W.Frag} {mg : Str → Option Value} {base : Heap}
theorem sc_run : FnScope ["program", "number", "done"] ["program", "number"] (defScope s_run) := ⟨rfl, rfl, rfl, by decide +kernel, rfl, by decide +kernel, by decide +kernel⟩
-- 0 program, 1 number, 2 done
theorem ok_run (T : Txt w K mg) : FnOk P w K mg base CX0 111 (He.ga K "run") (fdOf K d_run) ["program", "number"] spRunTold := by
  have G_plain_run := ok_plain_run (P := P) (base := base) T
  refine T.F_run.ok sc_run (fun vs H Q E h => ?_) (fun cdv A outer s H vs Q E hr h => ?_)
  · obtain ⟨v, pr, z, rfl, _⟩ := h
    rfl
  obtain ⟨v, pr, z, rfl, hpr, hok, hz0, hz1, q⟩ := h
  refine ⟨_, PSs.nox (pss_cons (ps_set (i := 2) sc_run.nd rfl (by first | exact Or.inl rfl | exact Or.inr rfl) (pe_call G_plain_run (hr.mono (by omega)) (by rfl) T.g_plain_run T.kp_plain_run T.b_plain_run .nil pass0 (pa_cons (pv 0) (pa_cons (pv 1) pa_nil))))
      (pss_one (ps_ret (pe_tup (pa_cons (Ov.pe_fldK (K := K) rfl (pv 2) rfl) (pa_cons (Ov.pe_fldK (K := K) rfl (pv 2) rfl) pa_nil)))))), ?_⟩
  refine ⟨_, rfl, _, rfl, v, pr, z, rfl, hpr, hok, hz0, hz1, fun H1 x t oth s1 f1 f2 r1 e1 => ?_⟩
  refine ⟨_, rfl, x.a, _, _, _, _, rfl, r1.ob, T.c_Run, T.a_Run_told, rfl, _, rfl, x.a, _, _, _, _, rfl, r1.ob, T.c_Run, T.a_Run_said, rfl, sml 2, fun r hr2 => ?_⟩
  have s2 := Same.new (o := .tup [.ref t, .ref x.sa]) hr2
  exact q _ r t x.sa (s1.trans s2) f1 upd_same (s2 _ _ e1) (s2 _ _ r1.sa)
end
end K07

namespace K07
open PySem PySem.Spec PyProof.Rows L2 Ov
section
variable {P : Program} {w : World} {K : PySem.W.Frag} {mg : Str → Option Value} {base : Heap}
theorem sc_traced : FnScope ["program", "number"] ["program", "number"] (defScope s_traced) := ⟨rfl, rfl, rfl, by decide +kernel, rfl, by decide +kernel, by decide +kernel⟩
-- 0 program, 1 number
theorem ok_traced (T : Txt w K mg) : FnOk P w K mg base CX0 111 (He.ga K "traced") (fdOf K d_traced) ["program", "number"] spTraced := by
  have G_plain_run := ok_plain_run (P := P) (base := base) T
  refine T.F_traced.ok sc_traced (fun vs H Q E h => ?_) (fun cdv A outer s H vs Q E hr h => ?_)
  · obtain ⟨v, pr, z, rfl, _⟩ := h
    rfl
  obtain ⟨v, pr, z, rfl, hpr, hok, hz0, hz1, q⟩ := h
  refine ⟨_, PSs.nox (pss_one (ps_ret (Ov.pe_fldK (K := K) rfl (pe_call G_plain_run (hr.mono (by omega)) (by rfl) T.g_plain_run T.kp_plain_run T.b_plain_run .nil pass0 (pa_cons (pv 0) (pa_cons (pv 1) pa_nil))) rfl))), ?_⟩
  refine ⟨_, rfl, _, rfl, v, pr, z, rfl, hpr, hok, hz0, hz1, fun H1 x t oth s1 f1 f2 r1 e1 => ?_⟩
  exact ⟨x.a, _, _, _, _, rfl, r1.ob, T.c_Run, T.a_Run_row, rfl, q H1 x.ro s1 f2 r1.ro⟩
end
end K07

namespace K07
open PySem PySem.Spec PyProof.Rows L2 Ov
section
variable {P : Program} {w : World} {K : PySem.W.Frag} {mg : Str → Option Value} {base : Heap}
theorem Txt.b_RoomRun_worth (T : Txt w K mg) : Binds K (fdOf K d_Run_worth) ["self", "function", "word", "argument"] [] := T.b_Run_worth
theorem Txt.b_RoomRun_call (T : Txt w K mg) : Binds K (fdOf K d_Run_call) ["self", "place", "called", "argument"] [] := T.b_Run_call
theorem Txt.b_RoomRun_say (T : Txt w K mg) : Binds K (fdOf K d_Run_say) ["self", "worth"] [] := T.b_Run_say
theorem ok_RoomRun_say (T : Txt w K mg) : FnOk P w K mg base (L2.CX P w) 4 (He.ma K (He.ga K "RoomRun") "say") (fdOf K d_Run_say) ["self", "worth"] (spSayR K) := by
  rw [T.inh_RoomRun_say]
  have G_number_in := ok_number_in (P := P) (base := base) T
  refine T.F_Run_say.ok sc_Run_say (fun vs H Q E h => ?_) (fun cdv A outer s H vs Q E hr h => ?_)
  · obtain ⟨x, pr, told, v, s, oth, a, rfl, _⟩ := h
    rfl
  obtain ⟨x, pr, told, v, s, oth, a, rfl, hR, hv, hsz, q⟩ := h
  refine ⟨_, (pss_cons (ps_expr (Ov.pe_bmK (K := K) rfl PySem.F.plainAttrs_list PySem.F.slot_list_append PySem.F.type_list_append mt_append (Ov.pe_fldK (K := K) rfl (pv 0) rfl) (pa_cons (pe_callS G_number_in (hr.mono (by omega)) (by rfl) T.g_number_in T.kp_number_in T.b_number_in (fun σ => passAt (takes_of rfl rfl rfl rfl) σ) (pa_cons (pv 1) pa_nil)) pa_nil)))
      (pss_one (ps_ret (pv 1)))), ?_⟩
  refine ⟨_, rfl, x.a, _, _, _, _, rfl, hR.ob, T.c_RoomRun, T.a_RoomRun_said, rfl, .inl ⟨rfl, _, SqL.of hR.sa⟩, _, rfl, v, a, rfl, hv, ?_⟩
  cases a with
  | num z => exact ⟨x.sa, _, _, rfl, rfl, hR.sa, Nat.lt_of_le_of_lt (by rw [List.length_map]; exact hsz) (by decide), _, rfl, q _ hR.updS.2 hR.updS.1⟩
  | way f => exact q
end
end K07

namespace K07
open PySem PySem.Spec PyProof.Rows L2 Ov
section
variable {P : Program} {w : World} {K : PySem.W.Frag} {mg : Str → Option Value} {base : Heap}
theorem ok_Run_initB (T : Txt w K mg) : FnOk P w K mg base CX0 11 (He.ma K (He.ga K "Run") "__init__") (fdOf K d_Run_init) ["self", "program"] (spRunInitB K) := by
  have G_numbered := ok_numbered (P := P) (base := base) T
  refine T.F_Run_init.ok sc_Run_init (fun vs H Q E h => ?_) (fun cdv A outer s H vs Q E hr h => ?_)
  · obtain ⟨a, dx, v, pr, rfl, _⟩ := h
    rfl
  obtain ⟨a, dx, v, pr, rfl, ha, hpr, hok, q⟩ := h
  refine ⟨_, PSs.nox (pss_cons (ps_fld (pv 0) (pe_call G_numbered (hr.mono (by omega)) (by rfl) T.g_numbered T.kp_numbered T.b_numbered .nil pass0 (pa_cons (pv 1) pa_nil)) rfl)
      (pss_cons (ps_fld (pv 0) pe_non rfl)
      (pss_cons (ps_fld (pv 0) (pe_lst pa_nil) rfl)
      (pss_cons (ps_fld (pv 0) (pe_lst pa_nil) rfl)
      (pss_cons (ps_fld (pv 0) pe_int rfl)
      (pss_one (ps_fld (pv 0) pe_int rfl))))))), ?_⟩
  refine ⟨_, rfl, v, pr, rfl, hpr, hok, fun H1 bo bs s1 hbo ebo hbs hnb => ?_⟩
  refine ⟨_, rfl, a, _, dx, _, rfl, s1 _ _ ha, T.c_RoomRun, T.a_RoomRun_bodies, by show 0 < 1000; decide, ?_⟩
  refine ⟨_, rfl, a, _, dx, _, rfl, upd_same, T.c_RoomRun, T.a_RoomRun_told, by show 1 < 1000; decide, ?_⟩
  have na : ∀ {b : Addr}, H1 b = none → b ≠ a := fun hb z => by
    rw [z, s1 _ _ ha] at hb
    cases hb
  have ea2 : upd (upd H1 a (.ins (He.ga K "RoomRun") dx (putF "bodies" (.ref bo) []))) a (.ins (He.ga K "RoomRun") dx (putF "told" .non (putF "bodies" (.ref bo) []))) a = some (.ins (He.ga K "RoomRun") dx (putF "told" .non (putF "bodies" (.ref bo) []))) := upd_same
  have fr2 : ∀ b o, b ≠ a → H1 b = some o → upd (upd H1 a (.ins (He.ga K "RoomRun") dx (putF "bodies" (.ref bo) []))) a (.ins (He.ga K "RoomRun") dx (putF "told" .non (putF "bodies" (.ref bo) []))) b = some o := fun b o n e => by
    rw [upd_ne n, upd_ne n]
    exact e
  generalize upd (upd H1 a (.ins (He.ga K "RoomRun") dx (putF "bodies" (.ref bo) []))) a (.ins (He.ga K "RoomRun") dx (putF "told" .non (putF "bodies" (.ref bo) []))) = H2 at ea2 fr2 ⊢
  refine ⟨sml 0, fun sa hsa => ?_⟩
  have nsa : sa ≠ a := (ne_of_none ea2 hsa).symm
  refine ⟨_, rfl, a, _, dx, _, rfl, Same.new hsa _ _ ea2, T.c_RoomRun, T.a_RoomRun_said, by show 2 < 1000; decide, ?_⟩
  have ea3 : upd (upd H2 sa (.lst [])) a (.ins (He.ga K "RoomRun") dx (putF "said" (.ref sa) (putF "told" .non (putF "bodies" (.ref bo) [])))) a = some (.ins (He.ga K "RoomRun") dx (putF "said" (.ref sa) (putF "told" .non (putF "bodies" (.ref bo) [])))) := upd_same
  have es3 : upd (upd H2 sa (.lst [])) a (.ins (He.ga K "RoomRun") dx (putF "said" (.ref sa) (putF "told" .non (putF "bodies" (.ref bo) [])))) sa = some (.lst []) := by rw [upd_ne nsa, upd_same]
  have fr3 : ∀ b o, b ≠ a → H1 b = some o → upd (upd H2 sa (.lst [])) a (.ins (He.ga K "RoomRun") dx (putF "said" (.ref sa) (putF "told" .non (putF "bodies" (.ref bo) [])))) b = some o := fun b o n e => by
    rw [upd_ne n]
    exact Same.new hsa _ _ (fr2 b o n e)
  have fsa : ∀ {b : Addr} {o : HO}, b ≠ a → H1 b = some o → b ≠ sa := fun n e => ne_of_none (fr2 _ _ n e) hsa
  generalize upd (upd H2 sa (.lst [])) a (.ins (He.ga K "RoomRun") dx (putF "said" (.ref sa) (putF "told" .non (putF "bodies" (.ref bo) [])))) = H3 at ea3 es3 fr3 ⊢
  refine ⟨sml 0, fun ro hro => ?_⟩
  have nro : ro ≠ a := (ne_of_none ea3 hro).symm
  have nsr : sa ≠ ro := ne_of_none es3 hro
  refine ⟨_, rfl, a, _, dx, _, rfl, Same.new hro _ _ ea3, T.c_RoomRun, T.a_RoomRun_row, by show 3 < 1000; decide, ?_⟩
  refine ⟨_, rfl, a, _, dx, _, rfl, upd_same, T.c_RoomRun, T.a_RoomRun_calls, by show 4 < 1000; decide, ?_⟩
  refine ⟨_, rfl, a, _, dx, _, rfl, upd_same, T.c_RoomRun, T.a_RoomRun_others, by show 5 < 1000; decide, ?_⟩
  have last : ∀ {b : Addr} {o : HO} {u1 u2 u3 : HO}, b ≠ a → H3 b = some o → upd (upd (upd (upd H3 ro (.lst [])) a u1) a u2) a u3 b = some o := fun n e => by
    rw [upd_ne n, upd_ne n, upd_ne n]
    exact Same.new hro _ _ e
  have fbo : ∀ {b : Addr} {o : HO}, b ≠ a → H1 b = some o → b ≠ ro := fun n e => ne_of_none (fr3 _ _ n e) hro
  have nbo : bo ≠ a := (ne_of_none ha hbo).symm
  have z1 : H sa = none := by
    cases e : H sa with
    | none => rfl
    | some o =>
      have z := fr2 _ _ nsa (s1 _ _ e)
      rw [hsa] at z
      cases z
  have z2 : H ro = none := by
    cases e : H ro with
    | none => rfl
    | some o =>
      have z := fr3 _ _ nro (s1 _ _ e)
      rw [hro] at z
      cases z
  refine q _ ⟨a, dx, bo, sa, ro⟩ (fun b o n e => last n (fr3 _ _ n (s1 _ _ e))) rfl rfl z1 z2 hbo ⟨?_, ⟨bs, last nbo (fr3 _ _ nbo ebo), ?_, fun b hb => ?_⟩, last nsa es3, ?_, fsa nbo ebo, fbo nbo ebo, nsr⟩
  · rw [upd_same]
    exact congrArg (fun l => some (HO.ins (He.ga K "RoomRun") dx l)) (runFs_new (x := ⟨a, dx, bo, sa, ro⟩))
  · refine PairedMem.map hbs fun b f hb ⟨ys, z1, z2⟩ => ⟨ys, ?_, L2.Paired.mapP z2 fun _ _ z => z.keep fun c xs e => ?_⟩
    · have nb : b ≠ a := (ne_of_none ha (hnb b hb)).symm
      exact last nb (fr3 _ _ nb z1)
    · have nc : c ≠ a := ne_of e (s1 _ _ ha) (by intro z; cases z)
      exact last nc (fr3 _ _ nc e)
  · have nb : b ≠ a := (ne_of_none ha (hnb b hb)).symm
    obtain ⟨f, ys, z1, _⟩ := PairedMem.left hbs b hb
    exact ⟨fsa nb z1, fbo nb z1, hnb b hb⟩
  · rw [upd_ne nro, upd_ne nro, upd_ne nro, upd_same]
    rfl
end
end K07

namespace K07
open PySem PySem.Spec PyProof.Rows L2 Ov
section
variable {P : Program} {w : World} {K : PySem.W.Frag} {mg : Str → Option Value} {base : Heap}
theorem sc_RoomRun_init : FnScope ["self", "program", "hall", "ahead", "back", "place"] ["self", "program", "hall", "ahead", "back"] (defScope s_RoomRun_init) := ⟨rfl, rfl, rfl, by decide +kernel, rfl, by decide +kernel, by decide +kernel⟩
-- 0 self, 1 program, 2 hall, 3 ahead, 4 back, 5 place
theorem ok_RoomRun_init (T : Txt w K mg) : FnOk P w K mg base CX0 12 (He.ma K (He.ga K "RoomRun") "__init__") (fdOf K d_RoomRun_init) ["self", "program", "hall", "ahead", "back"] (spRoomInit K) := by
  have G_initB := ok_Run_initB (P := P) (base := base) T
  refine T.F_RoomRun_init.ok sc_RoomRun_init (fun vs H Q E h => ?_) (fun cdv A outer s H vs Q E hr h => ?_)
  · obtain ⟨Hx, a, dx, v, pr, hx, la, lb, wys, L, n, far, rfl, _⟩ := h
    rfl
  obtain ⟨Hx, a, dx, v, pr, hx, la, lb, wys, L, n, far, rfl, ha, hla, hlb, hpr, hok, hin, hma, hwl, q⟩ := h
  refine ⟨_, PSs.nox (pss_cons (ps_expr (pe_unb (pe_glob (v := .ref (He.ga K "Run")) (by rfl) T.g_Run rfl) (unbB_ok T.unb_RoomRun_init).1 (unbB_ok T.unb_RoomRun_init).2 T.F_Run_init.kp (G_initB.raw T.b_Run_init .nil) (hr.mono (by omega)) pass0 (pa_cons (pv 0) (pa_cons (pv 1) pa_nil))))
      (pss_cons (ps_fld (pv 0) (pv 2) rfl)
      (pss_cons (ps_fld (pv 0) (pe_dc (own := [("place", 5)]) rfl sc_RoomRun_init.nd (Ov.pi_listK (K := K) rfl (pv 3)) (blkOk_by (own := [("place", 5)]) (N := ["self", "program", "hall", "ahead", "back", "place"]) (sc := defScope s_RoomRun_init) (by decide +kernel)) (fun _ _ _ _ _ => (pg_name (i := 5) sc_RoomRun_init.nd rfl (by first | exact Or.inl rfl | exact Or.inr rfl))) (fun _ _ _ _ _ => pts_nil) (fun _ _ _ _ _ => (pv 5)) (fun _ _ _ _ _ => pe_bl)) rfl)
      (pss_cons (ps_fld (pv 0) (pe_dc (own := [("place", 5)]) rfl sc_RoomRun_init.nd (Ov.pi_listK (K := K) rfl (pv 4)) (blkOk_by (own := [("place", 5)]) (N := ["self", "program", "hall", "ahead", "back", "place"]) (sc := defScope s_RoomRun_init) (by decide +kernel)) (fun _ _ _ _ _ => (pg_name (i := 5) sc_RoomRun_init.nd rfl (by first | exact Or.inl rfl | exact Or.inr rfl))) (fun _ _ _ _ _ => pts_nil) (fun _ _ _ _ _ => (pv 5)) (fun _ _ _ _ _ => pe_bl)) rfl)
      (pss_one (ps_fld (pv 0) pe_int rfl)))))), ?_⟩
  refine ⟨rfl, _, rfl, _, rfl, a, dx, v, pr, rfl, ha, hpr, hok, fun H1 y f1 ey edx n1 n2 n3 r1 => ?_⟩
  subst ey
  subst edx
  have la1 : la ≠ y.a := ne_of hla ha (by intro z; cases z)
  have lb1 : lb ≠ y.a := ne_of hlb ha (by intro z; cases z)
  refine ⟨_, rfl, _, rfl, y.a, _, y.dx, _, rfl, r1.ob, T.c_RoomRun, T.a_RoomRun_hall, by show 6 < 1000; decide, ?_⟩
  have ea2 : upd H1 y.a (.ins (He.ga K "RoomRun") y.dx (putF "hall" (.ref hx.a) (runFs y .non ((0 : Nat) : Int) 0))) y.a = some (.ins (He.ga K "RoomRun") y.dx (putF "hall" (.ref hx.a) (runFs y .non ((0 : Nat) : Int) 0))) := upd_same
  have fr2 : ∀ b o, b ≠ y.a → H1 b = some o → upd H1 y.a (.ins (He.ga K "RoomRun") y.dx (putF "hall" (.ref hx.a) (runFs y .non ((0 : Nat) : Int) 0))) b = some o := fun b o n e => by
    rw [upd_ne n]
    exact e
  generalize upd H1 y.a (.ins (He.ga K "RoomRun") y.dx (putF "hall" (.ref hx.a) (runFs y .non ((0 : Nat) : Int) 0))) = H2 at ea2 fr2 ⊢
  refine ⟨_, rfl, la, rfl, ⟨_, SqL.of (fr2 _ _ la1 (f1 _ _ la1 hla))⟩, fun D hD => ⟨fun i _ G => i = 0 ∧ G = upd H2 D (.dK []), ⟨0, rfl, rfl⟩, ?_⟩⟩
  rintro i m G ⟨rfl, rfl⟩
  have sD : Same H2 (upd H2 D (.dK [])) := Same.new hD
  have nDa : D ≠ y.a := (ne_of_none ea2 hD).symm
  have eD : upd H2 D (.dK []) D = some (.dK []) := upd_same
  generalize upd H2 D (.dK []) = H3 at sD eD ⊢
  refine .inl ⟨⟨[], SqL.of (sD _ _ (fr2 _ _ la1 (f1 _ _ la1 hla))), Nat.le_refl _⟩, ?_⟩
  refine ⟨_, rfl, y.a, _, y.dx, _, rfl, sD _ _ ea2, T.c_RoomRun, T.a_RoomRun_ahead, by show 7 < 1000; decide, ?_⟩
  have ea4 : upd H3 y.a (.ins (He.ga K "RoomRun") y.dx (putF "ahead" (.ref D) (putF "hall" (.ref hx.a) (runFs y .non ((0 : Nat) : Int) 0)))) y.a = some (.ins (He.ga K "RoomRun") y.dx (putF "ahead" (.ref D) (putF "hall" (.ref hx.a) (runFs y .non ((0 : Nat) : Int) 0)))) := upd_same
  have fr4 : ∀ b o, b ≠ y.a → H3 b = some o → upd H3 y.a (.ins (He.ga K "RoomRun") y.dx (putF "ahead" (.ref D) (putF "hall" (.ref hx.a) (runFs y .non ((0 : Nat) : Int) 0)))) b = some o := fun b o n e => by
    rw [upd_ne n]
    exact e
  generalize upd H3 y.a (.ins (He.ga K "RoomRun") y.dx (putF "ahead" (.ref D) (putF "hall" (.ref hx.a) (runFs y .non ((0 : Nat) : Int) 0)))) = H4 at ea4 fr4 ⊢
  have old4 : ∀ b o, b ≠ y.a → H1 b = some o → H4 b = some o := fun b o n e => fr4 _ _ n (sD _ _ (fr2 _ _ n e))
  refine ⟨_, rfl, lb, rfl, ⟨_, SqL.of (old4 _ _ lb1 (f1 _ _ lb1 hlb))⟩, fun E' hE => ⟨fun i _ G => i = 0 ∧ G = upd H4 E' (.dK []), ⟨0, rfl, rfl⟩, ?_⟩⟩
  rintro i m G ⟨rfl, rfl⟩
  have sE : Same H4 (upd H4 E' (.dK [])) := Same.new hE
  have nEa : E' ≠ y.a := (ne_of_none ea4 hE).symm
  have eE : upd H4 E' (.dK []) E' = some (.dK []) := upd_same
  generalize upd H4 E' (.dK []) = H5 at sE eE ⊢
  refine .inl ⟨⟨[], SqL.of (sE _ _ (old4 _ _ lb1 (f1 _ _ lb1 hlb))), Nat.le_refl _⟩, ?_⟩
  refine ⟨_, rfl, y.a, _, y.dx, _, rfl, sE _ _ ea4, T.c_RoomRun, T.a_RoomRun_back, by show 8 < 1000; decide, ?_⟩
  refine ⟨_, rfl, y.a, _, y.dx, _, rfl, upd_same, T.c_RoomRun, T.a_RoomRun_looks, by show 9 < 1000; decide, ?_⟩
  have old7 : ∀ {b : Addr} {o u1 u2 : HO}, b ≠ y.a → H1 b = some o → upd (upd H5 y.a u1) y.a u2 b = some o := fun n e => by
    rw [upd_ne n, upd_ne n]
    exact sE _ _ (old4 _ _ n e)
  have nDE : D ≠ E' := ne_of_none (fr4 _ _ nDa eD) hE
  obtain ⟨hat, hlok, hle⟩ := id hin
  obtain ⟨vs, hly, _⟩ := hat.ly
  have nly : hx.ly ≠ y.a := ne_of hly ha (by intro z; cases z)
  have nha : hx.a ≠ y.a := fun z => hma (by rw [← z]; exact hat.fa)
  obtain ⟨bs, ebo, hbs, hbn⟩ := r1.bo
  have nbo : y.bo ≠ y.a := (ne_of_none ha n3).symm
  have nsa : y.sa ≠ y.a := (ne_of_none ha n1).symm
  have nro : y.ro ≠ y.a := (ne_of_none ha n2).symm
  let x : PR := ⟨y, hx, D, E', wys, L, n, far⟩
  have kt : ∀ {u1 u2 : HO}, Keep H (upd (upd H5 y.a u1) y.a u2) := fun c xs e => by
    have nc := ne_of e ha (by intro z; cases z)
    exact old7 nc (f1 _ _ nc e)
  have kt1 : ∀ {u1 u2 : HO}, Keep H1 (upd (upd H5 y.a u1) y.a u2) := fun c xs e => old7 (ne_of e r1.ob (by intro z; cases z)) e
  have i1 : ∀ {u1 u2 : HO}, HallIn K Hx (upd (upd H5 y.a u1) y.a u2) hx wys L (List.replicate n none) 0 far := hin.keepN (fun b o nb e _ => by
    have nc : b ≠ y.a := fun z => hma (by rw [← z]; exact nb)
    exact old7 nc (f1 _ _ nc e)) kt
  have hw : ∀ {u1 u2 : HO}, ∀ c u, c = hx.wy ∨ c = hx.lo → H c = some u → upd (upd H5 y.a u1) y.a u2 c = some u := fun c u hc e => by
    have nc : c ≠ y.a := fun z => hma (by
      rw [← z]
      rcases hc with rfl | rfl
      · exact hat.fw.1
      · exact hat.fl.1)
    exact old7 nc (f1 _ _ nc e)
  have up : ∀ {G : Hp} {p r : Addr}, G p ≠ none → (upd G r (.tup [])) p ≠ none := fun {G p r} z => by
    by_cases c : p = r
    · rw [c, upd_same]
      exact fun y => nomatch y
    · rw [upd_ne c]
      exact z
  have own : ∀ {G : Hp} {r : Addr}, (upd G r (.tup [])) r ≠ none := fun {G r} => by
    rw [upd_same]
    exact fun y => nomatch y
  refine q _ x (fun b o n e => old7 n (f1 _ _ n e)) rfl rfl rfl rfl rfl rfl n1 n2 ⟨?_, ⟨bs, old7 nbo ebo, ?_, fun b hb => ⟨(hbn b hb).1, (hbn b hb).2.1, (ne_of_none hly (hbn b hb).2.2).symm⟩⟩, old7 nsa r1.sa, old7 nro r1.ro, ⟨⟨r1.nd.1, r1.nd.2.1, (ne_of_none hly n3).symm⟩, r1.nd.2.2⟩, ⟨?_, ?_⟩, ⟨_, HallIn.markM (o := .tup []) hin (HallIn.markM (o := .tup []) hin i1 hw n1 (ne_of_none hat.ob n1) (ne_of_none hly n1)) hw n2 (ne_of_none hat.ob n2) (ne_of_none hly n2), up (up hma), up own, own⟩, hwl⟩
  · rw [upd_same]
    exact congrArg (fun l => some (HO.ins (He.ga K "RoomRun") y.dx l)) (roomFs_new (x := x))
  · refine PairedMem.map hbs fun b f hb ⟨ys, z1, z2⟩ => ⟨ys, old7 (ne_of_none ha (hbn b hb).2.2).symm z1, L2.Paired.mapP z2 fun _ _ z => z.keep kt1⟩
  · show upd (upd H5 y.a _) y.a _ D = _
    rw [upd_ne nDa, upd_ne nDa]
    exact sE _ _ (fr4 _ _ nDa eD)
  · show upd (upd H5 y.a _) y.a _ E' = _
    rw [upd_ne nEa, upd_ne nEa]
    exact eE
end
end K07

namespace K07
open PySem PySem.Spec PyProof.Rows L2 Ov
section
variable {P : Program} {w : World} {K : PySem.W.Frag} {mg : Str → Option Value} {base : Heap}
theorem ok_Run_enter0 (T : Txt w K mg) : FnOk P w K mg base CX0 1 (He.ma K (He.ga K "Run") "enter") (fdOf K d_Run_enter) ["self", "place", "called"] (spEnter0 K) := by
  refine T.F_Run_enter.ok sc_Run_enter (fun vs H Q E h => ?_) (fun cdv A outer s H vs Q E hr h => ?_)
  · obtain ⟨x, pr, told, v, s, oth, f, rfl, _⟩ := h
    rfl
  obtain ⟨x, pr, told, v, s, oth, f, rfl, hR, hsz, q⟩ := h
  refine ⟨_, PSs.nox (pss_one (ps_expr (Ov.pe_bmK (K := K) rfl PySem.F.plainAttrs_list PySem.F.slot_list_append PySem.F.type_list_append mt_append (Ov.pe_fldK (K := K) rfl (pv 0) rfl) (pa_cons (pv 2) pa_nil)))), ?_⟩
  exact ⟨_, rfl, x.a, _, _, _, _, rfl, hR.ob, T.c_RoomRun, T.a_RoomRun_row, rfl, .inl ⟨rfl, _, SqL.of hR.ro⟩, _, rfl, x.ro, _, _, rfl, rfl, hR.ro, Nat.lt_of_le_of_lt (by rw [nV_len]; exact hsz) (by decide), q _ hR.updR.2 hR.updR.1⟩
theorem ok_Run_back0 (T : Txt w K mg) : FnOk P w K mg base CX0 1 (He.ma K (He.ga K "Run") "come_back") (fdOf K d_Run_come_back) ["self", "place"] (spBack0 K) := by
  refine T.F_Run_come_back.ok sc_Run_come_back (fun vs H Q E h => ?_) (fun cdv A outer s H vs Q E hr h => ?_)
  · obtain ⟨x, pr, told, s, oth, p, f, wi, rfl, _⟩ := h
    rfl
  obtain ⟨x, pr, told, s, oth, p, f, wi, rfl, hp, hR, hsz, q⟩ := h
  refine ⟨_, PSs.nox (pss_one (ps_expr (Ov.pe_bmK (K := K) rfl PySem.F.plainAttrs_list PySem.F.slot_list_append PySem.F.type_list_append mt_append (Ov.pe_fldK (K := K) rfl (pv 0) rfl) (pa_cons (pe_ix (r := rIxT K) ix_tup (pv 1) pe_int (fun _ _ => rfl)) pa_nil)))), ?_⟩
  exact ⟨_, rfl, x.a, _, _, _, _, rfl, hR.ob, T.c_RoomRun, T.a_RoomRun_row, rfl, .inl ⟨rfl, _, SqL.of hR.ro⟩, _, rfl, p, _, 0, _, rfl, rfl, SqT.of hp, atI_nat (j := 0) rfl, x.ro, _, _, rfl, rfl, hR.ro, Nat.lt_of_le_of_lt (by rw [nV_len]; exact hsz) (by decide), q _ hR.updR.2 hR.updR.1⟩
theorem sc_RoomRun_go_on : FnScope ["self", "function", "left_out"] ["self", "function", "left_out"] (defScope s_RoomRun_go_on) := ⟨rfl, rfl, rfl, by decide +kernel, rfl, by decide +kernel, by decide +kernel⟩
-- 0 self, 1 function, 2 left_out
theorem Txt.b_RoomRun_go_on (T : Txt w K mg) : Binds K (fdOf K d_RoomRun_go_on) ["self", "function", "left_out"] [] := T.F_RoomRun_go_on.bindsN fun _ _ _ _ _ _ us hl => match us, hl with | [_, _, _], _ => rfl
theorem ok_RoomRun_go_on (T : Txt w K mg) : FnOk P w K mg base CX0 4 (He.ma K (He.ga K "RoomRun") "go_on") (fdOf K d_RoomRun_go_on) ["self", "function", "left_out"] (spGoOn K) := by
  have G_Hall_look := ok_Hall_look (P := P) (base := base) T
  refine T.F_RoomRun_go_on.ok sc_RoomRun_go_on (fun vs H Q E h => ?_) (fun cdv A outer s H vs Q E hr h => ?_)
  · obtain ⟨x, pr, told, s, oth, row2, f, rfl, _⟩ := h
    rfl
  obtain ⟨x, pr, told, s, oth, row2, f, rfl, hR, hf, q⟩ := h
  refine ⟨_, PSs.nox (pss_one (ps_if (pt_not (pt_val (pv 2))) (pss_cons (ps_expr (pe_meth (Ov.pe_fldK (K := K) rfl (pv 0) rfl) T.c_Hall T.m_Hall_look G_Hall_look (hr.mono (by omega)) T.b_Hall_look .nil pass0 (pa_cons (pv 1) pa_nil)))
      (pss_one (ps_fldaug (pv 0) pe_int in_add))) pss_never)), ?_⟩
  obtain ⟨wy, hwy⟩ : ∃ wy, x.wys[f]? = some wy := ⟨_, List.getElem?_eq_getElem (by rw [hR.wl]; exact hf)⟩
  obtain ⟨Hx, i, m1, m2, m3⟩ := hR.hl
  refine ⟨_, rfl, _, rfl, iteT ?_⟩
  refine ⟨_, rfl, x.a, _, _, _, _, rfl, hR.ob, T.c_RoomRun, T.a_RoomRun_hall, rfl, x.hx.a, _, _, rfl, i.at_.ob, rfl, _, rfl, Hx, x.hx, x.wys, x.L, _, _, x.far, f, wy, rfl, i, hwy, fun H1 r b1 hr0 hrl er i1 => ?_⟩
  have es : x.sum (row2 ++ [f]) = (brgs (x.sum row2).1 x.L (mis (x.sum row2).1 x.L wy), (x.sum row2).2 + siz x.L (mis (x.sum row2).1 x.L wy)) := by
    unfold PR.sum
    rw [tsum_snoc, tstep, hwy]
    rfl
  obtain ⟨r2, e2⟩ := hR.look (f := f) i m1 m2 m3 b1 i1 (by rw [es]) (by rw [es]; show _ = (((_ : Nat) + (_ : Nat) : Nat) : Int); omega)
  refine ⟨_, rfl, x.a, _, _, _, _, rfl, e2, T.c_RoomRun, T.a_RoomRun_looks, rfl, _, _, rfl, rfl, x.dx, _, e2, by show 10 < 1000; decide, ?_⟩
  have el : (row2.length : Int) + 1 = ((row2 ++ [f]).length : Nat) := by
    rw [List.length_append, List.length_singleton]
    omega
  rw [el, roomFs_looks]
  exact q _ ((ButM.hall b1).trans fun b o n1 _ _ _ _ e => by rw [upd_ne n1]; exact e) r2
theorem Txt.s_RoomRun_enter (T : Txt w K mg) : SupD R.prog K "enter" "RoomRun.enter" (defArgs s_RoomRun_enter) (defBody s_RoomRun_enter) (defScope s_RoomRun_enter) (He.ma K (He.ga K "RoomRun") "enter") (celOf K (He.ma K (He.ga K "RoomRun") "enter")) (codOf K (He.ma K (He.ga K "RoomRun") "enter")) (He.ga K "RoomRun") (fnAt K (He.ma K (He.ga K "RoomRun") "enter")) := supB_ok (P := R.prog) (d := d_RoomRun_enter) T.e_RoomRun_enter T.sup_RoomRun_enter (by decide +kernel)
theorem Txt.s_RoomRun_come_back (T : Txt w K mg) : SupD R.prog K "come_back" "RoomRun.come_back" (defArgs s_RoomRun_come_back) (defBody s_RoomRun_come_back) (defScope s_RoomRun_come_back) (He.ma K (He.ga K "RoomRun") "come_back") (celOf K (He.ma K (He.ga K "RoomRun") "come_back")) (codOf K (He.ma K (He.ga K "RoomRun") "come_back")) (He.ga K "RoomRun") (fnAt K (He.ma K (He.ga K "RoomRun") "come_back")) := supB_ok (P := R.prog) (d := d_RoomRun_come_back) T.e_RoomRun_come_back T.sup_RoomRun_come_back (by decide +kernel)
theorem Txt.s_RoomRun_begin (T : Txt w K mg) : SupD R.prog K "begin" "RoomRun.begin" (defArgs s_RoomRun_begin) (defBody s_RoomRun_begin) (defScope s_RoomRun_begin) (He.ma K (He.ga K "RoomRun") "begin") (celOf K (He.ma K (He.ga K "RoomRun") "begin")) (codOf K (He.ma K (He.ga K "RoomRun") "begin")) (He.ga K "RoomRun") (fnAt K (He.ma K (He.ga K "RoomRun") "begin")) := supB_ok (P := R.prog) (d := d_RoomRun_begin) T.e_RoomRun_begin T.sup_RoomRun_begin (by decide +kernel)
theorem Txt.b_RoomRun_enter (T : Txt w K mg) : Binds K (fnAt K (He.ma K (He.ga K "RoomRun") "enter")) ["self", "place", "called"] [] := T.s_RoomRun_enter.binds fun _ _ _ _ _ us hl => match us, hl with | [_, _, _], _ => rfl
theorem Txt.b_RoomRun_come_back (T : Txt w K mg) : Binds K (fnAt K (He.ma K (He.ga K "RoomRun") "come_back")) ["self", "place"] [] := T.s_RoomRun_come_back.binds fun _ _ _ _ _ us hl => match us, hl with | [_, _], _ => rfl
theorem Txt.b_RoomRun_begin (T : Txt w K mg) : Binds K (fnAt K (He.ma K (He.ga K "RoomRun") "begin")) ["self", "number"] [] := T.s_RoomRun_begin.binds fun _ _ _ _ _ us hl => match us, hl with | [_, _], _ => rfl
theorem nsc_enter : NdefX.NScope ["self", "place", "called", "__class__"] ["self", "place", "called"] ["__class__"] (defScope s_RoomRun_enter) := NdefX.nscope_by (by decide +kernel)
theorem nsc_come_back : NdefX.NScope ["self", "place", "__class__"] ["self", "place"] ["__class__"] (defScope s_RoomRun_come_back) := NdefX.nscope_by (by decide +kernel)
theorem nsc_begin : NdefX.NScope ["self", "number", "__class__", "lost"] ["self", "number"] ["__class__"] (defScope s_RoomRun_begin) := NdefX.nscope_by (by decide +kernel)
theorem ok_RoomRun_enter (T : Txt w K mg) (hP : P = R.prog) : FnOk P w K mg base CX0 5 (He.ma K (He.ga K "RoomRun") "enter") (fnAt K (He.ma K (He.ga K "RoomRun") "enter")) ["self", "place", "called"] (spEnterR K) := by
  subst hP
  have G_enter0 := ok_Run_enter0 (P := R.prog) (base := base) T
  have G_RoomRun_go_on := ok_RoomRun_go_on (P := R.prog) (base := base) T
  have S := T.s_RoomRun_enter
  refine fn_ofS S nsc_enter (fun vs H Q E h => ?_) (fun A outer s H vs Q E hr h => ?_)
  · obtain ⟨x, pr, told, v, s, oth, f, rfl, _⟩ := h
    rfl
  obtain ⟨x, pr, told, v, s, oth, f, rfl, hR, hpl, hf, hsz, q⟩ := h
  refine ⟨_, QSs.cons (QS.expr (qe_super (i := 0) S (supMB_ok T.spm_RoomRun_enter) rfl rfl rfl rfl rfl rfl (by decide +kernel) (by decide +kernel) (by decide +kernel) T.z_super (by decide +kernel) (G_enter0.raw T.b_Run_enter .nil) (hr.mono (by omega)) pass0 (pa_cons (pv 1) (pa_cons (pv 2) pa_nil))))
    (QSs.of (pss_one (ps_expr (pe_meth (pv 0) T.c_RoomRun T.m_RoomRun_go_on G_RoomRun_go_on (hr.mono (by omega)) T.b_RoomRun_go_on .nil pass0 (pa_cons (pv 2) (pa_cons (pe_cmp (pc_inE (hu_of hr) (pv 1) (Ov.pe_fldK (K := K) rfl (pv 0) rfl))) pa_nil)))))), ?_⟩
  refine ⟨x.a, _, _, rfl, hR.ob, _, rfl, _, rfl, x, pr, told, v, s, oth, f, rfl, hR, hsz, fun H1 b1 r1 => ?_⟩
  exact ⟨_, rfl, x.a, _, _, rfl, r1.ob, rfl, _, rfl, _, rfl, _, rfl, x.a, _, _, _, _, rfl, r1.ob, T.c_RoomRun, T.a_RoomRun_ahead, rfl, x.da, rfl, r1.da.1, hpl.keep (hR.keep b1), x, pr, told, _, oth, s.row, f, rfl, r1, hf, fun H2 b2 r2 => q H2 (b1.trans b2) r2⟩
theorem ok_RoomRun_come_back (T : Txt w K mg) (hP : P = R.prog) : FnOk P w K mg base CX0 5 (He.ma K (He.ga K "RoomRun") "come_back") (fnAt K (He.ma K (He.ga K "RoomRun") "come_back")) ["self", "place"] (spBackR K) := by
  subst hP
  have G_back0 := ok_Run_back0 (P := R.prog) (base := base) T
  have G_RoomRun_go_on := ok_RoomRun_go_on (P := R.prog) (base := base) T
  have S := T.s_RoomRun_come_back
  refine fn_ofS S nsc_come_back (fun vs H Q E h => ?_) (fun A outer s H vs Q E hr h => ?_)
  · obtain ⟨x, pr, told, s, oth, p, f, wi, rfl, _⟩ := h
    rfl
  obtain ⟨x, pr, told, s, oth, p, f, wi, rfl, hp, hR, hf, hsz, q⟩ := h
  refine ⟨_, QSs.cons (QS.expr (qe_super (i := 0) S (supMB_ok T.spm_RoomRun_come_back) rfl rfl rfl rfl rfl rfl (by decide +kernel) (by decide +kernel) (by decide +kernel) T.z_super (by decide +kernel) (G_back0.raw T.b_Run_come_back .nil) (hr.mono (by omega)) pass0 (pa_cons (pv 1) pa_nil)))
    (QSs.of (pss_one (ps_expr (pe_meth (pv 0) T.c_RoomRun T.m_RoomRun_go_on G_RoomRun_go_on (hr.mono (by omega)) T.b_RoomRun_go_on .nil pass0 (pa_cons (pe_ix (r := rIxT K) ix_tup (pv 1) pe_int (fun _ _ => rfl)) (pa_cons (pe_cmp (pc_inE (hu_of hr) (pv 1) (Ov.pe_fldK (K := K) rfl (pv 0) rfl))) pa_nil)))))), ?_⟩
  refine ⟨x.a, _, _, rfl, hR.ob, _, rfl, x, pr, told, s, oth, p, f, wi, rfl, hp, hR, hsz, fun H1 b1 r1 => ?_⟩
  have hp1 := hR.keep b1 _ _ hp
  exact ⟨_, rfl, x.a, _, _, rfl, r1.ob, rfl, _, rfl, p, _, 0, _, rfl, rfl, SqT.of hp1, atI_nat (j := 0) rfl, _, rfl, _, rfl, x.a, _, _, _, _, rfl, r1.ob, T.c_RoomRun, T.a_RoomRun_back, rfl, x.db, rfl, r1.da.2, .inr ⟨p, f, wi, rfl, hp1⟩, x, pr, told, _, oth, s.row, f, rfl, r1, hf, fun H2 b2 r2 => q H2 (b1.trans b2) r2⟩
end
end K07

namespace K07
open PySem PySem.Spec PyProof.Rows L2 Ov
section
variable {P : Program} {w : World} {K : PySem.W.Frag} {mg : Str → Option Value} {base : Heap}
theorem ok_RoomRun_call0 (T : Txt w K mg) (hP : P = R.prog) {pr : List (Int × W)} (G_RoomRun_worth : FnOk P w K mg base (L2.CX P w) 0 (He.ma K (He.ga K "RoomRun") "worth") (fdOf K d_Run_worth) ["self", "function", "word", "argument"] fun _ _ _ _ => False) : FnOk P w K mg base (L2.CX P w) 9 (He.ma K (He.ga K "RoomRun") "call") (fdOf K d_Run_call) ["self", "place", "called", "argument"] (spCallR K pr 0) := by
  rw [T.inh_RoomRun_call]
  have G_RoomRun_enter := ok_RoomRun_enter (P := P) (base := base) T hP
  have G_RoomRun_come_back := ok_RoomRun_come_back (P := P) (base := base) T hP
  refine T.F_Run_call.ok sc_Run_call (fun vs H Q E h => ?_) (fun cdv A outer s H vs Q E hr h => ?_)
  · obtain ⟨x, told, v, s, oth, p, c, wi, f, a, rfl, _⟩ := h
    rfl
  obtain ⟨x, told, v, s, oth, p, c, wi, f, a, rfl, hp, hR, hok, hc, hf, hv, ha, hphi, hoth, q⟩ := h
  refine ⟨_, (pss_cons (ps_if (pt_cmpR op_ge (Ov.pe_fldK (K := K) rfl (pv 0) rfl) (pe_glob (v := .int 12) (by rfl) T.i_MOST_OTHERS.choose_spec ⟨_, rfl⟩) (nomark _)) (pss_one (ps_raiseFlt rfl T.flt hr (takes_of rfl rfl rfl rfl) (by exact (pa_cons pe_str pa_nil)))) pss_nil)
      (pss_cons (ps_if (pt_cmpR op_ge (Ov.pe_fldK (K := K) rfl (pv 0) rfl) (pe_glob (v := .int 200) (by rfl) T.i_MOST_CALLS.choose_spec ⟨_, rfl⟩) (nomark _)) (pss_one (ps_raiseFlt rfl T.flt hr (takes_of rfl rfl rfl rfl) (by exact (pa_cons pe_str pa_nil)))) pss_nil)
      (pss_cons (ps_fldaug (pv 0) pe_int in_add)
      (pss_cons (ps_fldaug (pv 0) pe_int in_add)
      (pss_cons (ps_expr (pe_meth (pv 0) T.c_RoomRun T.m_RoomRun_enter G_RoomRun_enter (hr.mono (by omega)) T.b_RoomRun_enter .nil pass0 (pa_cons (pv 1) (pa_cons (pv 2) pa_nil))))
      (pss_cons (ps_set (i := 4) sc_Run_call.nd rfl (by first | exact Or.inl rfl | exact Or.inr rfl) (pe_meth (pv 0) T.c_RoomRun T.m_RoomRun_worth G_RoomRun_worth (hr.mono (by omega)) T.b_RoomRun_worth .nil (passes_call (takes_of rfl rfl rfl rfl) (fun _ _ _ _ z => z)) (pa_cons (pv 2) (pa_cons pe_int (pa_cons (pv 3) pa_nil)))))
      (pss_cons (ps_expr (pe_meth (pv 0) T.c_RoomRun T.m_RoomRun_come_back G_RoomRun_come_back (hr.mono (by omega)) T.b_RoomRun_come_back .nil pass0 (pa_cons (pv 1) pa_nil)))
      (pss_cons (ps_fldaug (pv 0) pe_int in_sub)
      (pss_one (ps_ret (pv 4))))))))))), ?_⟩
  refine ⟨_, rfl, x.a, _, _, _, _, rfl, hR.ob, T.c_RoomRun, T.a_RoomRun_others, rfl, _, _, rfl, rfl, _, rfl, ?_⟩
  rw [decide_eq_true (show (12 : Int) ≤ oth by omega)]
  exact iteT ⟨_, rfl, fun d hd => q.out ButM.refl hR _ d (Same.new hd) hd upd_same⟩
theorem ok_RoomRun_callS (T : Txt w K mg) (hP : P = R.prog) {pr : List (Int × W)} {n k : Nat} (G_RoomRun_worth : FnOk P w K mg base (L2.CX P w) k (He.ma K (He.ga K "RoomRun") "worth") (fdOf K d_Run_worth) ["self", "function", "word", "argument"] (spWorthR K pr n 7)) (hk : 5 ≤ k) : FnOk P w K mg base (L2.CX P w) (k + 1) (He.ma K (He.ga K "RoomRun") "call") (fdOf K d_Run_call) ["self", "place", "called", "argument"] (spCallR K pr (n + 1)) := by
  rw [T.inh_RoomRun_call]
  have G_RoomRun_enter := ok_RoomRun_enter (P := P) (base := base) T hP
  have G_RoomRun_come_back := ok_RoomRun_come_back (P := P) (base := base) T hP
  refine T.F_Run_call.ok sc_Run_call (fun vs H Q E h => ?_) (fun cdv A outer s H vs Q E hr h => ?_)
  · obtain ⟨x, told, v, s, oth, p, c, wi, f, a, rfl, _⟩ := h
    rfl
  obtain ⟨x, told, v, s, oth, p, c, wi, f, a, rfl, hp, hR, hok, hc, hf, hv, ha, hphi, hoth, q⟩ := h
  refine ⟨_, (pss_cons (ps_if (pt_cmpR op_ge (Ov.pe_fldK (K := K) rfl (pv 0) rfl) (pe_glob (v := .int 12) (by rfl) T.i_MOST_OTHERS.choose_spec ⟨_, rfl⟩) (nomark _)) (pss_one (ps_raiseFlt rfl T.flt hr (takes_of rfl rfl rfl rfl) (by exact (pa_cons pe_str pa_nil)))) pss_nil)
      (pss_cons (ps_if (pt_cmpR op_ge (Ov.pe_fldK (K := K) rfl (pv 0) rfl) (pe_glob (v := .int 200) (by rfl) T.i_MOST_CALLS.choose_spec ⟨_, rfl⟩) (nomark _)) (pss_one (ps_raiseFlt rfl T.flt hr (takes_of rfl rfl rfl rfl) (by exact (pa_cons pe_str pa_nil)))) pss_nil)
      (pss_cons (ps_fldaug (pv 0) pe_int in_add)
      (pss_cons (ps_fldaug (pv 0) pe_int in_add)
      (pss_cons (ps_expr (pe_meth (pv 0) T.c_RoomRun T.m_RoomRun_enter G_RoomRun_enter (hr.mono (by omega)) T.b_RoomRun_enter .nil pass0 (pa_cons (pv 1) (pa_cons (pv 2) pa_nil))))
      (pss_cons (ps_set (i := 4) sc_Run_call.nd rfl (by first | exact Or.inl rfl | exact Or.inr rfl) (pe_meth (pv 0) T.c_RoomRun T.m_RoomRun_worth G_RoomRun_worth (hr.mono (by omega)) T.b_RoomRun_worth .nil (passes_call (takes_of rfl rfl rfl rfl) (fun _ _ _ _ z => z)) (pa_cons (pv 2) (pa_cons pe_int (pa_cons (pv 3) pa_nil)))))
      (pss_cons (ps_expr (pe_meth (pv 0) T.c_RoomRun T.m_RoomRun_come_back G_RoomRun_come_back (hr.mono (by omega)) T.b_RoomRun_come_back .nil pass0 (pa_cons (pv 1) pa_nil)))
      (pss_cons (ps_fldaug (pv 0) pe_int in_sub)
      (pss_one (ps_ret (pv 4))))))))))), ?_⟩
  refine ⟨_, rfl, x.a, _, _, _, _, rfl, hR.ob, T.c_RoomRun, T.a_RoomRun_others, rfl, _, _, rfl, rfl, _, rfl, ?_⟩
  rw [decide_eq_false (show ¬ (12 : Int) ≤ oth by omega)]
  refine iteF ⟨_, rfl, x.a, _, _, _, _, rfl, hR.ob, T.c_RoomRun, T.a_RoomRun_calls, rfl, _, _, rfl, rfl, _, rfl, ?_⟩
  obtain ⟨pf, hpf⟩ : ∃ p, pr[f]? = some p := ⟨_, List.getElem?_eq_getElem hf⟩
  rw [evC, hpf] at q
  by_cases h200 : 200 ≤ s.calls
  · rw [decide_eq_true (show (200 : Int) ≤ (s.calls : Int) by omega)]
    rw [if_pos h200] at q
    exact iteT ⟨_, rfl, fun d hd => q.out ButM.refl hR _ d (Same.new hd) hd upd_same⟩
  rw [decide_eq_false (show ¬ (200 : Int) ≤ (s.calls : Int) by omega)]
  rw [if_neg h200] at q
  refine iteF ?_
  have hse : s.row.length ≤ s.phi := by unfold RS.phi; omega
  refine ⟨_, rfl, x.a, _, _, _, _, rfl, hR.ob, T.c_RoomRun, T.a_RoomRun_calls, rfl, _, _, rfl, rfl, x.dx, _, hR.ob, by show 10 < 1000; decide, ?_⟩
  obtain ⟨r1, b1⟩ := hR.wr0 (told' := told) (oth' := oth) (c := s.calls + 1)
  rw [roomFs_calls, show (s.calls : Int) + 1 = ((s.calls + 1 : Nat) : Int) by omega]
  generalize upd H x.a (.ins (He.ga K "RoomRun") x.dx (roomFs x told ((s.calls + 1 : Nat) : Int) oth s.row.length)) = H1 at r1 b1 ⊢
  refine ⟨_, rfl, x.a, _, _, _, _, rfl, r1.ob, T.c_RoomRun, T.a_RoomRun_others, rfl, _, _, rfl, rfl, x.dx, _, r1.ob, by show 10 < 1000; decide, ?_⟩
  obtain ⟨r2, b2⟩ := r1.wr0 (told' := told) (oth' := oth + 1) (c := s.calls + 1)
  rw [roomFs_others]
  generalize upd H1 x.a (.ins (He.ga K "RoomRun") x.dx (roomFs x told ((s.calls + 1 : Nat) : Int) (oth + 1) s.row.length)) = H2 at r2 b2 ⊢
  have b12 := b1.trans b2
  refine ⟨_, rfl, x.a, _, _, rfl, r2.ob, rfl, _, rfl, _, rfl, x, pr, told, .ref p, _, _, f, rfl, r2, .inr ⟨p, c, wi, rfl, (hR.keep b12) _ _ hp⟩, hf, Nat.le_trans hse hphi, fun H3 b3 r3 => ?_⟩
  have b13 := b12.trans b3
  have k13 := hR.keep b13
  have hbd := hok.f pf (List.mem_of_getElem? hpf)
  have hph : ({ said := s.said, calls := s.calls + 1, row := s.row ++ [f], came := s.came ++ [(f, a)], told := s.told } : RS).phi + pf.2.size ≤ s.phi - 2 ∧ 2 ≤ s.phi := by
    have := hbd.2.2.2
    unfold RS.phi
    simp only [List.length_append, List.length_singleton]
    omega
  have gd := evB_good (n := pr.length) (call := evC pr n f) (a := a) (fun f' u' s' h1 h2 => evC_good hok n f f' u' s' h1 h2) ha 7 pf.2 { said := s.said, calls := s.calls + 1, row := s.row ++ [f], came := s.came ++ [(f, a)], told := s.told } hbd.2.2.1
  replace gd := Good.le hph.1 gd
  simp only at q
  have r3' : RoomAt K H3 x pr told { said := s.said, calls := s.calls + 1, row := s.row ++ [f], came := s.came ++ [(f, a)], told := s.told } (oth + 1) := ⟨r3.ob, r3.bo, r3.sa, r3.ro, r3.nd, r3.da, r3.hl, r3.wl⟩
  refine ⟨_, rfl, x.a, _, _, rfl, r3.ob, rfl, _, rfl, _, rfl, x, told, v, _, oth + 1, f, 0, pf, pf.2, a, rfl, r3', hok, hpf, SubAt.all _, hbd.2.2.1, hv.keep k13, ha, by omega, by omega, ?_⟩
  generalize evB (evC pr n f) a 7 pf.2 _ = rs at q gd ⊢
  cases rs with
  | bad e s2 => exact fun H5 d oth' b5 r5 e5 => q H5 d oth' (b13.trans b5) r5 e5
  | ok v2 s2 =>
    intro H5 y b5 r5 hy
    have hs2 : s2.phi ≤ s.phi - 2 := gd.2
    have hse2 : s2.row.length ≤ s2.phi := by unfold RS.phi; omega
    have b15 := b13.trans b5
    refine ⟨_, rfl, x.a, _, _, rfl, r5.ob, rfl, _, rfl, x, pr, told, s2, oth + 1, p, c, wi, rfl, (hR.keep b15) _ _ hp, r5, hc, by omega, fun H6 b6 r6 => ?_⟩
    have k6 := r5.keep b6
    refine ⟨_, rfl, x.a, _, _, _, _, rfl, r6.ob, T.c_RoomRun, T.a_RoomRun_others, rfl, _, _, rfl, rfl, x.dx, _, r6.ob, by show 10 < 1000; decide, ?_⟩
    obtain ⟨r7, b7⟩ := r6.wr0 (told' := told) (oth' := oth) (c := s2.calls)
    have k7 := r6.keep b7
    rw [roomFs_others, show oth + 1 - 1 = oth by omega]
    exact ⟨_, rfl, q _ y (b15.trans (b6.trans b7)) ⟨r7.ob, r7.bo, r7.sa, r7.ro, r7.nd, r7.da, r7.hl, r7.wl⟩ ((hy.keep k6).keep k7)⟩
end
end K07

namespace K07
open PySem PySem.Spec PyProof.Rows L2 Ov
section
variable {P : Program} {w : World} {K : PySem.W.Frag} {mg : Str → Option Value} {base : Heap}
theorem ok_RoomRun_worthS (T : Txt w K mg) (hP : P = R.prog) {pr : List (Int × W)} {n d k : Nat} (G_RoomRun_worth : FnOk P w K mg base (L2.CX P w) k (He.ma K (He.ga K "RoomRun") "worth") (fdOf K d_Run_worth) ["self", "function", "word", "argument"] (spWorthR K pr n d))
    (G_RoomRun_call : FnOk P w K mg base (L2.CX P w) (8 * n + 9) (He.ma K (He.ga K "RoomRun") "call") (fdOf K d_Run_call) ["self", "place", "called", "argument"] (spCallR K pr n)) (hk : 8 * n + 9 ≤ k) :
    FnOk P w K mg base (L2.CX P w) (k + 1) (He.ma K (He.ga K "RoomRun") "worth") (fdOf K d_Run_worth) ["self", "function", "word", "argument"] (spWorthR K pr n (d + 1)) := by
  rw [T.inh_RoomRun_worth]
  have G_number_in := ok_number_in (P := P) (base := base) T
  have G_end_of_way := ok_end_of_way (P := P) (base := base) T
  have G_reckoned := ok_reckoned (P := P) (base := base) T
  have G_RoomRun_say := ok_RoomRun_say (P := P) (base := base) T
  refine T.F_Run_worth.ok sc_Run_worth (fun vs H Q E h => ?_) (fun cdv A outer s H vs Q E hr h => ?_)
  · obtain ⟨x, told, v, s, oth, f, wi, p, u, a, rfl, _⟩ := h
    rfl
  obtain ⟨x, told, v, s, oth, f, wi, p, u, a, rfl, hR, hok, hpf, hsub, hwk, hv, ha, hphi, hoth, q⟩ := h
  refine ⟨_, (pss_cons (ps_asg (pe_ix (r := rIxL K) ix_list (pe_ix (r := rIxL K) ix_list (Ov.pe_fldK (K := K) rfl (pv 0) rfl) (pv 1) (fun _ _ => rfl)) (pv 2) (fun _ _ => rfl)) (Ov.pg_tupK (K := K) (n := 3) rfl rfl (pgs_cons (pg_name (i := 4) sc_Run_worth.nd rfl (by first | exact Or.inl rfl | exact Or.inr rfl)) (pgs_cons (pg_name (i := 5) sc_Run_worth.nd rfl (by first | exact Or.inl rfl | exact Or.inr rfl)) (pgs_cons (pg_name (i := 6) sc_Run_worth.nd rfl (by first | exact Or.inl rfl | exact Or.inr rfl)) pgs_nil)))))
      (pss_cons (ps_if (pt_cmpR op_eq (pv 4) pe_str (nomark _)) (pss_one (ps_ret (pe_tup (pa_cons pe_str (pa_cons (pv 5) pa_nil))))) pss_nil)
      (pss_cons (ps_if (pt_cmpR op_eq (pv 4) pe_str (nomark _)) (pss_one (ps_ret (pe_tup (pa_cons pe_str (pa_cons (pv 5) pa_nil))))) pss_nil)
      (pss_cons (ps_if (pt_cmpR op_eq (pv 4) pe_str (nomark _)) (pss_one (ps_ret (pv 3))) pss_nil)
      (pss_cons (ps_if (pt_cmpR op_eq (pv 4) pe_str (nomark _)) (pss_cons (ps_set (i := 7) sc_Run_worth.nd rfl (by first | exact Or.inl rfl | exact Or.inr rfl) (pe_callS G_number_in (hr.mono (by omega)) (by rfl) T.g_number_in T.kp_number_in T.b_number_in (fun σ => passAt (takes_of rfl rfl rfl rfl) σ) (pa_cons (pe_meth (pv 0) T.c_RoomRun T.m_RoomRun_worth G_RoomRun_worth (hr.mono (by omega)) T.b_RoomRun_worth .nil (passes_call (takes_of rfl rfl rfl rfl) (fun _ _ _ _ z => z)) (pa_cons (pv 1) (pa_cons (pe_ix (r := rIxT K) ix_tup (pv 6) pe_int (fun _ _ => rfl)) (pa_cons (pv 3) pa_nil)))) pa_nil)))
      (pss_one (ps_ret (pe_meth (pv 0) T.c_RoomRun T.m_RoomRun_worth G_RoomRun_worth (hr.mono (by omega)) T.b_RoomRun_worth .nil (passes_call (takes_of rfl rfl rfl rfl) (fun _ _ _ _ z => z)) (pa_cons (pv 1) (pa_cons (pe_ifExp (pt_cmpR op_ne (pv 7) pe_int (nomark _)) (pe_ix (r := rIxT K) ix_tup (pv 6) pe_int (fun _ _ => rfl)) (pe_ix (r := rIxT K) ix_tup (pv 6) pe_int (fun _ _ => rfl))) (pa_cons (pv 3) pa_nil))))))) pss_nil)
      (pss_cons (Ov.ps_setLcX (i := 8) (own := [("arm", 9)]) (takes_of rfl rfl rfl rfl) (fun _ _ _ _ z => z) rfl rfl rfl sc_Run_worth.nd rfl rfl (sw_true rfl rfl rfl (by decide +kernel)) (Ov.pi_tupK (K := K) rfl (pv 6)) (blkOk_by (own := [("arm", 9)]) (N := ["self", "function", "word", "argument", "name", "given", "arms", "first", "worths", "arm"]) (sc := defScope s_Run_worth) (by decide +kernel)) (fun _ _ _ _ _ => (pg_name (i := 9) sc_Run_worth.nd rfl (by first | exact Or.inl rfl | exact Or.inr rfl))) (fun _ _ _ _ _ _ hx => (pe_meth (pv 0) T.c_RoomRun T.m_RoomRun_worth G_RoomRun_worth (hr.mono (by omega)) T.b_RoomRun_worth .nil hx (pa_cons (pv 1) (pa_cons (pv 9) (pa_cons (pv 3) pa_nil))))))
      (pss_cons (ps_if (pt_cmpR op_eq (pv 4) pe_str (nomark _)) (pss_one (ps_ret (pe_ix (r := rIxL K) ix_list (pv 8) pe_int (fun _ _ => rfl)))) pss_nil)
      (pss_cons (ps_if (pt_cmpR op_eq (pv 4) pe_str (nomark _)) (pss_one (ps_ret (pe_meth (pv 0) T.c_RoomRun T.m_RoomRun_say G_RoomRun_say (hr.mono (by omega)) T.b_RoomRun_say .nil (passes_call (takes_of rfl rfl rfl rfl) (fun _ _ _ _ z => z)) (pa_cons (pe_ix (r := rIxL K) ix_list (pv 8) pe_int (fun _ _ => rfl)) pa_nil)))) pss_nil)
      (pss_cons (ps_if (pt_cmpR op_eq (pv 4) pe_str (nomark _)) (pss_one (ps_ret (pe_meth (pv 0) T.c_RoomRun T.m_RoomRun_call G_RoomRun_call (hr.mono (by omega)) T.b_RoomRun_call .nil (passes_call (takes_of rfl rfl rfl rfl) (fun _ _ _ _ z => z)) (pa_cons (pe_tup (pa_cons (pv 1) (pa_cons (pv 2) pa_nil))) (pa_cons (pv 5) (pa_cons (pe_ix (r := rIxL K) ix_list (pv 8) pe_int (fun _ _ => rfl)) pa_nil)))))) pss_nil)
      (pss_cons (ps_if (pt_cmpR op_eq (pv 4) pe_str (nomark _)) (pss_one (ps_ret (pe_meth (pv 0) T.c_RoomRun T.m_RoomRun_call G_RoomRun_call (hr.mono (by omega)) T.b_RoomRun_call .nil (passes_call (takes_of rfl rfl rfl rfl) (fun _ _ _ _ z => z)) (pa_cons (pe_tup (pa_cons (pv 1) (pa_cons (pv 2) pa_nil))) (pa_cons (pe_callS G_end_of_way (hr.mono (by omega)) (by rfl) T.g_end_of_way T.kp_end_of_way T.b_end_of_way (fun σ => passAt (takes_of rfl rfl rfl rfl) σ) (pa_cons (pe_ix (r := rIxL K) ix_list (pv 8) pe_int (fun _ _ => rfl)) pa_nil)) (pa_cons (pe_ix (r := rIxL K) ix_list (pv 8) pe_int (fun _ _ => rfl)) pa_nil)))))) pss_nil)
      (pss_one (ps_ret (pe_call G_reckoned (hr.mono (by omega)) (by rfl) T.g_reckoned T.kp_reckoned T.b_reckoned .nil pass0 (pa_cons (pv 4) (pa_cons (pe_callS G_number_in (hr.mono (by omega)) (by rfl) T.g_number_in T.kp_number_in T.b_number_in (fun σ => passAt (takes_of rfl rfl rfl rfl) σ) (pa_cons (pe_ix (r := rIxL K) ix_list (pv 8) pe_int (fun _ _ => rfl)) pa_nil)) (pa_cons (pe_callS G_number_in (hr.mono (by omega)) (by rfl) T.g_number_in T.kp_number_in T.b_number_in (fun σ => passAt (takes_of rfl rfl rfl rfl) σ) (pa_cons (pe_ix (r := rIxL K) ix_list (pv 8) pe_int (fun _ _ => rfl)) pa_nil)) pa_nil)))))))))))))))), ?_⟩
  obtain ⟨o, g, as⟩ := u
  cases hwk with
  | mk h1 h2 h3 =>
  obtain ⟨bs, hbo, hbs, hbn⟩ := hR.bo
  obtain ⟨b, hb, ys, hys, hrows⟩ := Paired.got hbs hpf
  have hrow := hsub.row
  obtain ⟨rv, hrv, t, aa, rfl, ht, haa⟩ := Paired.got hrows hrow
  have hfl := (List.getElem?_eq_some_iff.mp hpf).1
  refine ⟨_, rfl, x.a, _, _, _, _, rfl, hR.ob, T.c_RoomRun, T.a_RoomRun_bodies, rfl, _, rfl, x.bo, _, _, _, rfl, rfl, SqL.of hbo, atI_nat (by rw [List.getElem?_map, hb]; rfl), _, rfl, b, _, _, _, rfl, rfl, SqL.of hys, atI_nat hrv, t, _, rfl, SqT.of ht, rfl, _, _, rfl, _, _, rfl, _, _, rfl, rfl, ?_⟩
  have hal : as.length = o.arity := h1
  -- words without arms
  by_cases c1 : o = .num
  · subst c1
    refine ⟨_, rfl, rfl, _, rfl, iteT ⟨_, rfl, sml 2, fun t2 ht2 => ?_⟩⟩
    exact q _ _ (ButM.same (Same.new ht2)) (hR.same (Same.new ht2)) ⟨t2, rfl, upd_same⟩
  refine ⟨_, rfl, rfl, _, rfl, ?_⟩
  rw [show decide (V.str o.name = V.str "num") = false by cases o <;> first | decide +kernel | exact absurd rfl c1]
  refine iteF ?_
  by_cases c2 : o = .way
  · subst c2
    refine ⟨_, rfl, rfl, _, rfl, iteT ⟨_, rfl, sml 2, fun t2 ht2 => ?_⟩⟩
    refine q _ _ (ButM.same (Same.new ht2)) (hR.same (Same.new ht2)) ⟨t2, rfl, ?_⟩
    have hg : 0 ≤ g ∧ g < pr.length := h2
    rw [upd_same]
    show some (HO.tup [V.str "way", V.int g]) = some (HO.tup [V.str "way", V.int ((g.toNat : Nat) : Int)])
    rw [show ((g.toNat : Nat) : Int) = g by omega]
  refine ⟨_, rfl, rfl, _, rfl, ?_⟩
  rw [show decide (V.str o.name = V.str "way") = false by cases o <;> first | decide +kernel | exact absurd rfl c2]
  refine iteF ?_
  by_cases c3 : o = .arg
  · subst c3
    exact ⟨_, rfl, rfl, _, rfl, iteT ⟨_, rfl, q _ _ ButM.refl hR hv⟩⟩
  refine ⟨_, rfl, rfl, _, rfl, ?_⟩
  rw [show decide (V.str o.name = V.str "argument") = false by cases o <;> first | decide +kernel | exact absurd rfl c3]
  refine iteF ?_
  have ssz : 1 + W.sizes as = (W.mk o g as).size := (W.size_mk o g as).symm
  by_cases c4 : o = .ife
  · subst c4
    obtain ⟨wt, wx, wy, rfl⟩ := three_of hal
    obtain ⟨k0, e0, s0⟩ := hsub.arm (j := 0) (a := wt) rfl
    obtain ⟨k1, e1, s1⟩ := hsub.arm (j := 1) (a := wx) rfl
    obtain ⟨k2, e2, s2⟩ := hsub.arm (j := 2) (a := wy) rfl
    have szs : W.sizes [wt, wx, wy] = wt.size + (wx.size + (wy.size + 0)) := by simp only [W.sizes]
    rw [evB_if] at q
    refine ⟨_, rfl, rfl, _, rfl, iteT ?_⟩
    have gd := evB_good (n := pr.length) (call := evC pr n f) (a := a) (fun f' u' s' h1 h2 => evC_good hok n f f' u' s' h1 h2) ha d wt s (h3 wt (by simp))
    refine ⟨_, rfl, x.a, _, _, rfl, hR.ob, rfl, _, rfl, _, rfl, aa, _, 0, _, rfl, rfl, SqT.of haa, atI_nat (nV_get e0), _, rfl, x, told, v, s, oth, f, k0, p, wt, a, rfl, hR, hok, hpf, s0, h3 wt (by simp), hv, ha, by omega, hoth, ?_⟩
    generalize evB (evC pr n f) a d wt s = r0 at q gd ⊢
    cases r0 with
    | bad e s5 => exact fun H5 dd oth' b5 r5 e5 => q H5 dd oth' b5 r5 e5
    | ok v0 s5 =>
      intro H5 y b5 r5 hy
      have hs5 : s5.phi ≤ s.phi + wt.size := gd.2
      refine ⟨y, v0, rfl, hy, ?_⟩
      have k5 := hR.keep b5
      cases v0 with
      | way f' => exact AnsR.out (f := .kind) (s := s5) q b5 r5
      | num z =>
        have q : AnsR K x pr told oth H Q E (if z ≠ 0 then evB (evC pr n f) a d wx s5 else evB (evC pr n f) a d wy s5) := q
        refine ⟨_, rfl, x.a, _, _, rfl, r5.ob, rfl, _, rfl, _, rfl, rfl, _, rfl, ?_⟩
        show if (!decide (V.int z = V.int 0)) = true then _ else _
        by_cases hz : z = 0
        · subst hz
          rw [if_neg (by simp)] at q
          rw [decide_eq_true (rfl : V.int 0 = V.int 0)]
          exact iteF ⟨_, rfl, aa, _, 2, _, rfl, rfl, SqT.of (k5 _ _ haa), atI_nat (nV_get e2), _, rfl, x, told, v, s5, oth, f, k2, p, wy, a, rfl, r5, hok, hpf, s2, h3 wy (by simp), hv.keep k5, ha, by omega, hoth, AnsR.but b5 q⟩
        · rw [if_pos hz] at q
          rw [decide_eq_false (fun e => hz (V.int.inj e) : ¬ V.int z = V.int 0)]
          exact iteT ⟨_, rfl, aa, _, 1, _, rfl, rfl, SqT.of (k5 _ _ haa), atI_nat (nV_get e1), _, rfl, x, told, v, s5, oth, f, k1, p, wx, a, rfl, r5, hok, hpf, s1, h3 wx (by simp), hv.keep k5, ha, by omega, hoth, AnsR.but b5 q⟩
  refine ⟨_, rfl, rfl, _, rfl, ?_⟩
  rw [show decide (V.str o.name = V.str "if") = false by cases o <;> first | decide +kernel | exact absurd rfl c4]
  refine iteF ?_
  rw [evB_gen c1 c2 c3 c4] at q
  -- the arms
  refine ⟨_, rfl, aa, rfl, ⟨_, SqT.of haa⟩, fun D hD => ?_⟩
  have nDa : D ≠ x.a := (ne_of_none hR.ob hD).symm
  have nDs : D ≠ x.sa := (ne_of_none hR.sa hD).symm
  have nDr : D ≠ x.ro := (ne_of_none hR.ro hD).symm
  have stl : (nV (starts (wi + 1) as)).length = as.length := by rw [nV_len, starts_len]
  refine lc_tupY (K := K) (a := aa) (xs := nV (starts (wi + 1) as)) (fun i H' => ∃ (si : RS) (vsi : List Wt) (us : List V), ButM x H H' ∧ RoomAt K H' x pr told si oth ∧ H' D = some (.lst us) ∧ Paired (PV H') us vsi ∧ vsi.length = i ∧ (∀ u ∈ vsi, WtOk pr.length u) ∧ si.phi ≤ s.phi + W.sizes (as.take i) ∧ AnsR K x pr told oth H Q E (evArms (evB (evC pr n f) a d) (as.drop i) vsi si (fin (evC pr n f) o g)))
    ⟨s, [], [], ButM.same (Same.new hD), hR.same (Same.new hD), upd_same, .nil, rfl, (fun _ z => nomatch z), by rw [List.take_zero, W.sizes]; exact Nat.le_refl _, by rw [List.drop_zero]; exact q⟩ (fun i H' _ ⟨_, _, _, b, _⟩ => SqT.of (hR.keep b _ _ haa)) ?_ ?_
  · rintro i y Hi hi ⟨si, vsi, us, bi, ri, eDi, hvi, hvl, hvo, hsi, qi⟩
    have hil : i < as.length := by
      have := (List.getElem?_eq_some_iff.mp hi).1
      rw [stl] at this
      exact this
    obtain ⟨ai, hai⟩ : ∃ ai, as[i]? = some ai := ⟨_, List.getElem?_eq_getElem hil⟩
    obtain ⟨ki, eki, subi⟩ := hsub.arm (j := i) (a := ai) hai
    obtain rfl : y = .int (ki : Int) := Option.some.inj (hi.symm.trans (nV_get eki))
    have wki := h3 ai (List.mem_of_getElem? hai)
    have szi := size_get as i ai hai
    have ki' := hR.keep bi
    rw [drop_get hai] at qi
    have gd := evB_good (n := pr.length) (call := evC pr n f) (a := a) (fun f' u' s' h1 h2 => evC_good hok n f f' u' s' h1 h2) ha d ai si wki
    refine ⟨rfl, _, rfl, x.a, _, _, rfl, ri.ob, rfl, _, rfl, _, rfl, _, rfl, x, told, v, si, oth, f, ki, p, ai, a, rfl, ri, hok, hpf, subi, wki, hv.keep ki', ha, by omega, hoth, ?_⟩
    have qi : AnsR K x pr told oth H Q E ((evB (evC pr n f) a d ai si).bind fun v s => evArms (evB (evC pr n f) a d) (as.drop (i + 1)) (vsi ++ [v]) s (fin (evC pr n f) o g)) := qi
    generalize evB (evC pr n f) a d ai si = r0 at qi gd ⊢
    cases r0 with
    | bad e s5 => exact fun H5 dd oth' b5 r5 e5 => qi H5 dd oth' (bi.trans b5) r5 e5
    | ok v0 s5 =>
      intro H5 y b5 r5 hy
      have hs5 : s5.phi ≤ si.phi + ai.size := gd.2
      have eD5 := b5 _ _ nDa nDs nDr (hR.nown hD).2.2.2.1 (hR.nown hD).2.2.2.2 eDi
      have k5 := ri.keep b5
      have bi5 := bi.trans b5
      have kD := Keep.updL (ys := us ++ [y]) eD5
      have ul := Paired.length hvi
      have ar3 : o.arity ≤ 3 := by cases o <;> decide
      refine ⟨us, eD5, sm _ (by omega), s5, vsi ++ [v0], us ++ [y], bi5.updn hD, RoomG.fresh hR hD bi5 r5 eD5, upd_same, PySem.Paired.snoc (L2.Paired.mapP hvi fun _ _ z => (z.keep k5).keep kD) (hy.keep kD), by rw [List.length_append, List.length_singleton, hvl], fun u hu => ?_, ?_, qi⟩
      · rcases List.mem_append.mp hu with hu | hu
        · exact hvo u hu
        · rw [List.mem_singleton.mp hu]
          exact gd.1
      · have : as.take (i + 1) = as.take i ++ [ai] := by
          rw [List.take_add_one, hai]
          rfl
        rw [this, W.sizes_snoc]
        omega
  rintro Hn ⟨sn, vs, us, bn, rn, eD, hvs, hvl, hvo, hsn, qn⟩
  rw [stl] at hvl hsn qn
  rw [List.take_length] at hsn
  rw [List.drop_length] at qn
  have q : AnsR K x pr told oth H Q E (fin (evC pr n f) o g vs sn) := qn
  clear qn
  have kn := hR.keep bn
  have hvk : PV Hn v a := hv.keep kn
  have phn : sn.phi ≤ most := by omega
  have at0 : ∀ {u : V} {r : List V}, us = u :: r → atI us (0 : Int) = some u := fun e => by
    rw [e]
    exact atI_nat (j := 0) rfl
  by_cases c5 : o = .thn
  · subst c5
    obtain ⟨l1, l2, u1, u2, rfl, rfl, hp1, hp2⟩ := paired_two hvs (by rw [hvl, hal]; rfl)
    exact ⟨_, rfl, rfl, _, rfl, iteT ⟨_, rfl, D, _, 1, _, rfl, rfl, SqL.of eD, atI_nat (j := 1) rfl, q Hn l2 bn rn hp2⟩⟩
  refine ⟨_, rfl, rfl, _, rfl, ?_⟩
  rw [show decide (V.str o.name = V.str "then") = false by cases o <;> first | decide +kernel | exact absurd rfl c5]
  refine iteF ?_
  by_cases c6 : o = .say
  · subst c6
    obtain ⟨l1, u1, rfl, rfl, hp1⟩ := one_of hvs (by rw [hvl, hal]; rfl)
    have hsl : sn.said.length ≤ sn.phi := by unfold RS.phi; omega
    refine ⟨_, rfl, rfl, _, rfl, iteT ⟨_, rfl, x.a, _, _, rfl, rn.ob, rfl, _, rfl, D, _, 0, _, rfl, rfl, SqL.of eD, atI_nat (j := 0) rfl, x, pr, told, l1, sn, oth, u1, rfl, rn, hp1, by omega, ?_⟩⟩
    cases u1 with
    | num z => exact fun H' b r => q H' l1 (bn.trans b) r (hp1.keep (rn.keep b))
    | way f' => exact AnsR.out (f := .kind) (s := sn) q bn rn
  refine ⟨_, rfl, rfl, _, rfl, ?_⟩
  rw [show decide (V.str o.name = V.str "say") = false by cases o <;> first | decide +kernel | exact absurd rfl c6]
  refine iteF ?_
  by_cases c7 : o = .call
  · subst c7
    obtain ⟨l1, u1, rfl, rfl, hp1⟩ := one_of hvs (by rw [hvl, hal]; rfl)
    have hg : 0 ≤ g ∧ g < pr.length := h2
    refine ⟨_, rfl, rfl, _, rfl, iteT ⟨_, rfl, x.a, _, _, rfl, rn.ob, rfl, _, rfl, _, rfl, sml 2, fun t2 ht2 => ?_⟩⟩
    have s2 := Same.new (o := .tup [.int (f : Int), .int (wi : Int)]) ht2
    refine ⟨_, rfl, _, rfl, D, _, 0, _, rfl, rfl, SqL.of (s2 _ _ eD), atI_nat (j := 0) rfl, x, told, l1, sn, oth, t2, f, wi, g.toNat, u1, ?_, upd_same, rn.same s2, hok, hfl, by omega, hp1.keep (Keep.same s2), hvo u1 (by simp), phn, hoth, AnsR.but (bn.trans (ButM.same s2)) q⟩
    show [V.ref x.a, V.ref t2, V.int g, l1] = [V.ref x.a, V.ref t2, V.int ((g.toNat : Nat) : Int), l1]
    rw [show ((g.toNat : Nat) : Int) = g by omega]
  refine ⟨_, rfl, rfl, _, rfl, ?_⟩
  rw [show decide (V.str o.name = V.str "call") = false by cases o <;> first | decide +kernel | exact absurd rfl c7]
  refine iteF ?_
  by_cases c8 : o = .through
  · subst c8
    obtain ⟨l1, l2, u1, u2, rfl, rfl, hp1, hp2⟩ := paired_two hvs (by rw [hvl, hal]; rfl)
    refine ⟨_, rfl, rfl, _, rfl, iteT ⟨_, rfl, x.a, _, _, rfl, rn.ob, rfl, _, rfl, _, rfl, sml 2, fun t2 ht2 => ?_⟩⟩
    have s2 := Same.new (o := .tup [.int (f : Int), .int (wi : Int)]) ht2
    refine ⟨_, rfl, D, _, 0, _, rfl, rfl, SqL.of (s2 _ _ eD), atI_nat (j := 0) rfl, l1, u1, rfl, hp1.keep (Keep.same s2), ?_⟩
    cases u1 with
    | num z => exact AnsR.out (f := .kind) (s := sn) q (bn.trans (ButM.same s2)) (rn.same s2)
    | way f' => exact ⟨_, rfl, D, _, 1, _, rfl, rfl, SqL.of (s2 _ _ eD), atI_nat (j := 1) rfl, x, told, l2, sn, oth, t2, f, wi, f', u2, rfl, upd_same, rn.same s2, hok, hfl, hvo (.way f') (by simp), hp2.keep (Keep.same s2), hvo u2 (by simp), phn, hoth, AnsR.but (bn.trans (ButM.same s2)) q⟩
  refine ⟨_, rfl, rfl, _, rfl, ?_⟩
  rw [show decide (V.str o.name = V.str "through") = false by cases o <;> first | decide +kernel | exact absurd rfl c8]
  refine iteF ?_
  have ho : o = .plus ∨ o = .less ∨ o = .times := by cases o <;> simp_all
  have har : o.arity = 2 := by rcases ho with rfl | rfl | rfl <;> rfl
  obtain ⟨l1, l2, u1, u2, rfl, rfl, hp1, hp2⟩ := paired_two hvs (by rw [hvl, hal, har])
  have hbad : ∀ {f' : Nat}, Wt.way f' ∈ [u1, u2] → fin (evC pr n f) o g [u1, u2] sn = .bad .kind sn := fun h => fin_bad h (Nat.le_refl 2) (.inr ho)
  refine ⟨_, rfl, _, rfl, D, _, 0, _, rfl, rfl, SqL.of eD, atI_nat (j := 0) rfl, l1, u1, rfl, hp1, ?_⟩
  cases u1 with
  | way f' =>
    rw [hbad (f' := f') (by simp)] at q
    exact AnsR.out (f := .kind) (s := sn) q bn rn
  | num z1 =>
    refine ⟨_, rfl, D, _, 1, _, rfl, rfl, SqL.of eD, atI_nat (j := 1) rfl, l2, u2, rfl, hp2, ?_⟩
    cases u2 with
    | way f' =>
      rw [hbad (f' := f') (by simp)] at q
      exact AnsR.out (f := .kind) (s := sn) q bn rn
    | num z2 =>
      have w1 : 0 ≤ z1 ∧ z1 < 1000 := hvo (.num z1) (by simp)
      refine ⟨o, z1, z2, rfl, ho, w1.1, w1.2, fun H' t2 z s2 ht2 e2 hfin => ?_⟩
      rw [hfin] at q
      exact q H' _ (bn.trans (ButM.same s2)) (rn.same s2) ⟨t2, rfl, e2⟩
theorem ok_RoomRun_worth0 (T : Txt w K mg) (hP : P = R.prog) {pr : List (Int × W)} {n k : Nat} : FnOk P w K mg base (L2.CX P w) k (He.ma K (He.ga K "RoomRun") "worth") (fdOf K d_Run_worth) ["self", "function", "word", "argument"] (spWorthR K pr n 0) :=
  ⟨fun vs H Q E ⟨_, _, _, _, _, _, _, _, _, _, _, _, _, _, _, h, _⟩ => absurd h wok0, fun _ _ _ _ _ _ _ _ _ _ _ _ _ ⟨_, _, _, _, _, _, _, _, _, _, _, _, _, _, _, h, _⟩ => absurd h wok0⟩
theorem ok_RoomRun_worthD (T : Txt w K mg) (hP : P = R.prog) {pr : List (Int × W)} {n : Nat} (G : FnOk P w K mg base (L2.CX P w) (8 * n + 9) (He.ma K (He.ga K "RoomRun") "call") (fdOf K d_Run_call) ["self", "place", "called", "argument"] (spCallR K pr n)) : ∀ d, FnOk P w K mg base (L2.CX P w) (8 * n + 9 + d) (He.ma K (He.ga K "RoomRun") "worth") (fdOf K d_Run_worth) ["self", "function", "word", "argument"] (spWorthR K pr n d)
  | 0 => ok_RoomRun_worth0 T hP
  | d + 1 => ok_RoomRun_worthS T hP (ok_RoomRun_worthD T hP G d) G (Nat.le_add_right _ _)
theorem ok_RoomRun_callN (T : Txt w K mg) (hP : P = R.prog) {pr : List (Int × W)} : ∀ n, FnOk P w K mg base (L2.CX P w) (8 * n + 9) (He.ma K (He.ga K "RoomRun") "call") (fdOf K d_Run_call) ["self", "place", "called", "argument"] (spCallR K pr n)
  | 0 => ok_RoomRun_call0 T hP ⟨fun _ _ _ _ h => h.elim, fun _ _ _ _ _ _ _ _ _ _ _ _ _ h => h.elim⟩
  | n + 1 => ok_RoomRun_callS T hP (ok_RoomRun_worthD T hP (ok_RoomRun_callN T hP n) 7) (by omega)
/-- function 0's body, twelve more within one another -/
theorem ok_RoomRun_worth (T : Txt w K mg) (hP : P = R.prog) {pr : List (Int × W)} : FnOk P w K mg base (L2.CX P w) 112 (He.ma K (He.ga K "RoomRun") "worth") (fdOf K d_Run_worth) ["self", "function", "word", "argument"] (spWorthR K pr 12 7) := ok_RoomRun_worthD T hP (ok_RoomRun_callN T hP 12) 7
end
end K07

namespace K07
open PySem PySem.Spec PyProof.Rows L2 Ov
section
variable {P : Program} {w : World} {K : PySem.W.Frag} {mg : Str → Option Value} {base : Heap}
theorem ok_Run_beginR (T : Txt w K mg) (hP : P = R.prog) : FnOk P w K mg base CX0 113 (He.ma K (He.ga K "Run") "begin") (fdOf K d_Run_begin) ["self", "number"] (spBeginR K) := by
  refine ⟨fun vs H Q E h => ?_, ?_⟩
  · obtain ⟨x, pr, z, rfl, _⟩ := h
    rfl
  intro A outer s H args us vs Q E hr h1 h2 h3 h4
  obtain ⟨x, pr, z, e, r⟩ := h4
  have G_RoomRun_enter := ok_RoomRun_enter (P := P) (base := base) T hP
  have G_RoomRun_worth := ok_RoomRun_worth (P := P) (base := base) T hP (pr := pr)
  refine FnOk.run (sp := fun vs H Q E => ∃ (x : PR) (z : Int), vs = [.ref x.a, .int z] ∧ RoomAt K H x pr .non ⟨[], 0, [], [], []⟩ 0 ∧ PrOk pr ∧ 0 ≤ z ∧ z < 1000 ∧
    ∀ H' t oth, ButM x H H' → RoomAt K H' x pr (.ref t) (evR pr z).st oth → H' t = some (.tup [.str (endD (evR pr z)).1, (endD (evR pr z)).2]) → Q .non H') (T.F_Run_begin.ok sc_Run_begin (fun vs H Q E h => ?_) (fun cdv A outer s H vs Q E hr h => ?_)) A outer s H args us vs Q E hr h1 h2 h3 ⟨x, z, e, r⟩
  · obtain ⟨x, z, rfl, _⟩ := h
    rfl
  obtain ⟨x, z, rfl, hR, hok, hz0, hz1, q⟩ := h
  refine ⟨_, PSs.nox (pss_one (ps_try_as (i := 2) rfl rfl sc_Run_begin.nd rfl rfl ⟨rfl, by decide, .inl T.g_Fault⟩ takes0 (fun W pn xe tk _ => (pss_cons (ps_expr (pe_meth (pv 0) T.c_RoomRun T.m_RoomRun_enter G_RoomRun_enter (hr.mono (by omega)) T.b_RoomRun_enter .nil pass0 (pa_cons pe_non (pa_cons pe_int pa_nil))))
      (pss_one (Ov.ps_fldK (K := K) rfl (pv 0) (Ov.pe_methAt (pv 0) T.c_RoomRun T.m_RoomRun_worth G_RoomRun_worth (hr.mono (by omega)) T.b_RoomRun_worth (fun σ => passAt tk σ) (pa_cons pe_int (pa_cons pe_int (pa_cons (pe_tup (pa_cons pe_str (pa_cons (pv 1) pa_nil))) pa_nil)))) rfl)))) (fun a oe cls d pn hz hf => (pss_one (Ov.ps_fldK (K := K) rfl (pv 0) (pe_tup (pa_cons pe_str (pa_cons (pe_byFlt T.flt hz hf (pv 2)) pa_nil))) rfl))))), ?_⟩
  obtain ⟨p, hp⟩ : ∃ p, pr[0]? = some p := ⟨_, List.getElem?_eq_getElem (by have := hok.l1; omega)⟩
  have hbd := hok.f p (List.mem_of_getElem? hp)
  unfold evR at q
  rw [hp] at q
  refine ⟨_, rfl, x.a, _, _, rfl, hR.ob, rfl, x, pr, .non, .non, _, 0, 0, rfl, hR, .inl rfl, (by have := hok.l1; omega), Nat.zero_le _, fun H1 b1 r1 => ?_⟩
  have b0 : ({ said := [], calls := 0, row := [0], came := [(0, .num z)], told := [] } : RS).phi + p.2.size ≤ most := by
    have := hbd.2.2.2
    unfold RS.phi most
    simp only [List.length_cons, List.length_nil]
    omega
  refine ⟨_, rfl, x.a, _, _, rfl, r1.ob, rfl, _, rfl, sml 2, fun t ht => ?_⟩
  have st := Same.new (o := .tup [.str "number", .int z]) ht
  have et : upd H1 t (.tup [.str "number", .int z]) t = some (.tup [.str "number", .int z]) := upd_same
  have r2 := r1.same st
  generalize upd H1 t (.tup [.str "number", .int z]) = H2 at st et r2 ⊢
  have b2 := b1.trans (ButM.same st)
  have r2' : RoomAt K H2 x pr .non { said := [], calls := 0, row := [0], came := [(0, .num z)], told := [] } 0 := ⟨r2.ob, r2.bo, r2.sa, r2.ro, r2.nd, r2.da, r2.hl, r2.wl⟩
  refine ⟨x, .non, .ref t, _, 0, 0, 0, p, p.2, .num z, rfl, r2', hok, hp, SubAt.all _, hbd.2.2.1, ⟨t, rfl, et⟩, ⟨hz0, hz1⟩, b0, rfl, ?_⟩
  simp only at q
  generalize evB (evC pr 12 0) (.num z) 7 p.2 _ = rs at q ⊢
  cases rs with
  | ok v s2 =>
    intro H5 y b5 r5 hy
    obtain ⟨r6, b6⟩ := r5.wr0 (told' := y) (oth' := 0) (c := s2.calls)
    have k6 := r5.keep b6
    obtain ⟨t5, rfl, e5⟩ := hy
    refine ⟨_, rfl, x.a, _, x.dx, _, rfl, r5.ob, T.c_RoomRun, T.a_RoomRun_told, by show 10 < 1000; decide, ?_⟩
    rw [roomFs_told]
    refine q _ t5 0 (b2.trans (b5.trans b6)) ⟨r6.ob, r6.bo, r6.sa, r6.ro, r6.nd, r6.da, r6.hl, r6.wl⟩ ?_
    rw [k6 _ _ e5]
    cases v <;> rfl
  | bad f s2 =>
    intro H5 d oth' b5 r5 e5
    refine ⟨true, T.flt.te, fun _ ea hea => ?_, fun z => nomatch z⟩
    refine ⟨_, rfl, rfl, rfl, d, _, rfl, e5, sml 2, fun t6 ht6 => ?_⟩
    have s6 := Same.new (o := .tup [.str "fault", .str f.name]) ht6
    have e6 : upd H5 t6 (.tup [.str "fault", .str f.name]) t6 = some (.tup [.str "fault", .str f.name]) := upd_same
    have r6 := r5.same s6
    generalize upd H5 t6 (.tup [.str "fault", .str f.name]) = H6 at s6 e6 r6 ⊢
    obtain ⟨r7, b7⟩ := r6.wr0 (told' := .ref t6) (oth' := oth') (c := s2.calls)
    have k7 := r6.keep b7
    refine ⟨_, rfl, x.a, _, x.dx, _, rfl, r6.ob, T.c_RoomRun, T.a_RoomRun_told, by show 10 < 1000; decide, ?_⟩
    rw [roomFs_told]
    exact q _ t6 oth' (b2.trans (b5.trans ((ButM.same s6).trans b7))) ⟨r7.ob, r7.bo, r7.sa, r7.ro, r7.nd, r7.da, r7.hl, r7.wl⟩ (k7 _ _ e6)
theorem ok_RoomRun_begin (T : Txt w K mg) (hP : P = R.prog) : FnOk P w K mg base CX0 114 (He.ma K (He.ga K "RoomRun") "begin") (fnAt K (He.ma K (He.ga K "RoomRun") "begin")) ["self", "number"] (spBeginR K) := by
  subst hP
  have G_begin := ok_Run_beginR (P := R.prog) (base := base) T rfl
  have S := T.s_RoomRun_begin
  refine fn_ofS S nsc_begin (fun vs H Q E h => ?_) (fun A outer s H vs Q E hr h => ?_)
  · obtain ⟨x, pr, z, rfl, _⟩ := h
    rfl
  obtain ⟨x, pr, z, rfl, hR, hok, hz0, hz1, q⟩ := h
  refine ⟨_, QSs.one (QS.try_thru (QSs.one (QS.expr (qe_super (i := 0) S (supMB_ok T.spm_RoomRun_begin) rfl rfl rfl rfl rfl rfl (by decide +kernel) (by decide +kernel) (by decide +kernel) T.z_super (by decide +kernel) (G_begin.raw T.b_Run_begin .nil) (hr.mono (by omega)) pass0 (pa_cons (pv 1) pa_nil))))), ?_⟩
  exact ⟨x.a, _, _, rfl, hR.ob, _, rfl, x, pr, z, rfl, hR, hok, hz0, hz1, q⟩
end
end K07

namespace K07
open PySem PySem.Spec PyProof.Rows L2 Ov
section
variable {P : Program} {w : World} {K : PySem.W.Frag} {mg : Str → Option Value} {base : Heap}
theorem sc_check_places : FnScope ["program", "left_out", "bodies", "place"] ["program", "left_out"] (defScope s_check_places) := ⟨rfl, rfl, rfl, by decide +kernel, rfl, by decide +kernel, by decide +kernel⟩
-- 0 program, 1 left_out, 2 bodies, 3 place
theorem ok_check_places0 (T : Txt w K mg) : FnOk P w K mg base CX0 11 (He.ga K "check_places") (fdOf K d_check_places) ["program", "left_out"] spPlaces0 := by
  have G_numbered := ok_numbered (P := P) (base := base) T
  refine T.F_check_places.ok sc_check_places (fun vs H Q E h => ?_) (fun cdv A outer s H vs Q E hr h => ?_)
  · obtain ⟨v, pr, la, rfl, _⟩ := h
    rfl
  obtain ⟨v, pr, la, rfl, hpr, hok, hla, q⟩ := h
  refine ⟨_, PSs.nox (pss_cons (ps_set (i := 2) sc_check_places.nd rfl (by first | exact Or.inl rfl | exact Or.inr rfl) (pe_call G_numbered (hr.mono (by omega)) (by rfl) T.g_numbered T.kp_numbered T.b_numbered .nil pass0 (pa_cons (pv 0) pa_nil)))
      (pss_one (ps_for PassesOwn.never rfl (Ov.pi_listK (K := K) rfl (pv 1)) (pg_name (i := 3) sc_check_places.nd rfl (by first | exact Or.inl rfl | exact Or.inr rfl)) pss_never))), ?_⟩
  refine ⟨_, rfl, v, pr, rfl, hpr, hok, fun H1 bo bs s1 _ _ _ _ => ?_⟩
  refine ⟨_, rfl, la, rfl, ⟨_, SqL.of (s1 _ _ hla)⟩, ?_⟩
  refine for_list (K := K) (a := la) (xs := []) (fun i σ' H' => H' = H1) rfl (fun i σ' H' _ e => by
    rw [show H' = H1 from e]
    exact SqL.of (s1 _ _ hla)) (fun i y σ' H' hi _ => by simp at hi) ?_
  intro σ' H' e
  rw [show H' = H1 from e]
  exact q H1 s1
theorem Txt.b_RoomRun_init (T : Txt w K mg) : Binds K (fdOf K d_RoomRun_init) ["self", "program", "hall", "ahead", "back"] [] := T.F_RoomRun_init.bindsN fun _ _ _ _ _ _ us hl => match us, hl with | [_, _, _, _, _], _ => rfl
theorem sc_room_run : FnScope ["program", "tree", "room", "ahead", "back", "number", "hall", "done"] ["program", "tree", "room", "ahead", "back", "number"] (defScope s_room_run) := ⟨rfl, rfl, rfl, by decide +kernel, rfl, by decide +kernel, by decide +kernel⟩
-- 0 program, 1 tree, 2 room, 3 ahead, 4 back, 5 number, 6 hall, 7 done
theorem ok_room_run (T : Txt w K mg) (hP : P = R.prog) : FnOk P w K mg base CX0 115 (He.ga K "room_run") (fdOf K d_room_run) ["program", "tree", "room", "ahead", "back", "number"] (spRoomRun K) := by
  have G_Hall_init := ok_Hall_init (P := P) (base := base) T
  have G_check_places := ok_check_places0 (P := P) (base := base) T
  have G_check_number := ok_check_number (P := P) (base := base) T
  have G_RoomRun_init := ok_RoomRun_init (P := P) (base := base) T
  have G_RoomRun_begin := ok_RoomRun_begin (P := P) (base := base) T hP
  refine T.F_room_run.ok sc_room_run (fun vs H Q E h => ?_) (fun cdv A outer s H vs Q E hr h => ?_)
  · obtain ⟨v, t, pr, ps, st, dn, far, room, la, lb, z, rfl, _⟩ := h
    rfl
  obtain ⟨v, t, pr, ps, st, dn, far, room, la, lb, z, rfl, hpre, hdn, hfar, hfr, hr64, hla, hlb, hz0, hz1, q⟩ := h
  refine ⟨_, PSs.nox (pss_cons (ps_set (i := 6) sc_room_run.nd rfl (by first | exact Or.inl rfl | exact Or.inr rfl) (pe_make T.k_Hall G_Hall_init (hr.mono (by omega)) (by rfl) T.g_Hall T.b_Hall_init .nil pass0 (pa_cons (pv 0) (pa_cons (pv 1) (pa_cons (pv 2) pa_nil)))))
      (pss_cons (ps_expr (pe_call G_check_places (hr.mono (by omega)) (by rfl) T.g_check_places T.kp_check_places T.b_check_places .nil pass0 (pa_cons (pv 0) (pa_cons (pv 3) pa_nil))))
      (pss_cons (ps_expr (pe_call G_check_places (hr.mono (by omega)) (by rfl) T.g_check_places T.kp_check_places T.b_check_places .nil pass0 (pa_cons (pv 0) (pa_cons (pv 4) pa_nil))))
      (pss_cons (ps_expr (pe_call G_check_number (hr.mono (by omega)) (by rfl) T.g_check_number T.kp_check_number T.b_check_number .nil pass0 (pa_cons (pv 5) pa_nil)))
      (pss_cons (ps_set (i := 7) sc_room_run.nd rfl (by first | exact Or.inl rfl | exact Or.inr rfl) (pe_make T.k_RoomRun G_RoomRun_init (hr.mono (by omega)) (by rfl) T.g_RoomRun T.b_RoomRun_init .nil pass0 (pa_cons (pv 0) (pa_cons (pv 6) (pa_cons (pv 3) (pa_cons (pv 4) pa_nil))))))
      (pss_cons (ps_expr (pe_meth (pv 7) T.c_RoomRun T.m_RoomRun_begin G_RoomRun_begin (hr.mono (by omega)) T.b_RoomRun_begin .nil pass0 (pa_cons (pv 5) pa_nil)))
      (pss_one (ps_ret (pv 7))))))))), ?_⟩
  have hok := hpre.2.1
  refine ⟨_, rfl, _, rfl, _, rfl, fun x0 dx0 hx0 hdx0 ndx => ?_⟩
  have sH : Same H (upd (upd H dx0 (.own x0)) x0 (.ins (He.ga K "Hall") dx0 [])) := (Same.new hdx0).trans (Same.new (by rw [upd_ne ndx.symm]; exact hx0))
  refine ⟨H, x0, dx0, v, t, pr, ps, st, dn, far, room, rfl, upd_same, hx0, fun b hb => Same.free sH hb, hpre.keep (Keep.same sH), hdn, hfar, hfr, hr64, fun H1 hx cs f1 ex edx hcs hin1 => ⟨rfl, ?_⟩⟩
  have s1 : Same H H1 := fun b o e => f1 b o (ne_of_none e hx0) (sH _ _ e)
  clear sH f1
  subst ex
  refine ⟨_, rfl, _, rfl, v, pr, la, rfl, hpre.1.keep (Keep.same s1), hok, s1 _ _ hla, fun H2 s2 => ?_⟩
  refine ⟨_, rfl, _, rfl, v, pr, lb, rfl, hpre.1.keep (Keep.same (s1.trans s2)), hok, s2 _ _ (s1 _ _ hlb), fun H3 s3 => ?_⟩
  refine ⟨_, rfl, z, rfl, hz0, hz1, ?_⟩
  have s13 := s1.trans (s2.trans s3)
  have i3 := hin1.same (s2.trans s3)
  refine ⟨_, rfl, _, rfl, _, rfl, _, rfl, fun a dx ha hdx nd => ?_⟩
  have sR : Same H3 (upd (upd H3 dx (.own a)) a (.ins (He.ga K "RoomRun") dx [])) := (Same.new hdx).trans (Same.new (by rw [upd_ne nd.symm]; exact ha))
  have im : HallIn K (upd H a (.tup [])) H3 hx (waysF pr.length ps dn) (laysF pr cs ps) (List.replicate room none) 0 far.toNat := ⟨i3.at_.mark ha, i3.ok, i3.le⟩
  refine ⟨_, a, dx, v, pr, hx, la, lb, _, _, room, far.toNat, rfl, upd_same, sR _ _ (s13 _ _ hla), sR _ _ (s13 _ _ hlb), hpre.1.keep (Keep.same (s13.trans sR)), hok, im.same sR, (by rw [upd_same]; exact fun y => nomatch y), (by unfold waysF; rw [List.length_map, List.length_range]), fun H5 x f5 exa exh ewy eL en ef nsa nro hR => ⟨rfl, ?_⟩⟩
  have s5 : Same H3 H5 := fun b o e => f5 b o (ne_of_none e ha) (sR _ _ e)
  have hsa : H x.sa = none := Same.free (s13.trans sR) nsa
  have hro : H x.ro = none := Same.free (s13.trans sR) nro
  clear f5 sR nsa nro
  subst exa
  have hxa : H x.a = none := Same.free s13 ha
  refine ⟨_, rfl, x.a, _, _, rfl, hR.ob, rfl, _, rfl, x, pr, z, rfl, hR, hok, hz0, hz1, fun H6 tt oth b6 r6 e6 => ?_⟩
  have s6 : Same H H6 := fun b o e => b6 b o (ne_of_none e hxa) (ne_of_none e hsa) (ne_of_none e hro) (by rw [exh]; exact ne_of_none e hx0) (by rw [exh]; exact ne_of_none e hin1.at_.fy) (s5 _ _ (s13 _ _ e))
  exact ⟨_, rfl, q H6 x tt oth cs s6 hsa r6 e6 hcs ewy eL en ef (by rw [ewy, eL, ef]; exact hin1.ok)⟩
theorem sc_run_in : FnScope ["program", "tree", "room", "number", "done"] ["program", "tree", "room", "number"] (defScope s_run_in) := ⟨rfl, rfl, rfl, by decide +kernel, rfl, by decide +kernel, by decide +kernel⟩
-- 0 program, 1 tree, 2 room, 3 number, 4 done
theorem ok_run_in (T : Txt w K mg) (hP : P = R.prog) : FnOk P w K mg base CX0 116 (He.ga K "run_in") (fdOf K d_run_in) ["program", "tree", "room", "number"] spRunIn := by
  have G_room_run := ok_room_run (P := P) (base := base) T hP
  have G_Hall_brought := ok_Hall_brought (P := P) (base := base) T
  refine T.F_run_in.ok sc_run_in (fun vs H Q E h => ?_) (fun cdv A outer s H vs Q E hr h => ?_)
  · obtain ⟨v, t, pr, ps, st, dn, far, room, z, rfl, _⟩ := h
    rfl
  obtain ⟨v, t, pr, ps, st, dn, far, room, z, rfl, hpre, hdn, hfar, hfr, hr64, hz0, hz1, q⟩ := h
  refine ⟨_, PSs.nox (pss_cons (ps_set (i := 4) sc_run_in.nd rfl (by first | exact Or.inl rfl | exact Or.inr rfl) (pe_call G_room_run (hr.mono (by omega)) (by rfl) T.g_room_run T.kp_room_run T.b_room_run .nil pass0 (pa_cons (pv 0) (pa_cons (pv 1) (pa_cons (pv 2) (pa_cons (pe_lst pa_nil) (pa_cons (pe_lst pa_nil) (pa_cons (pv 3) pa_nil))))))))
      (pss_one (ps_ret (pe_tup (pa_cons (Ov.pe_fldK (K := K) rfl (pv 4) rfl) (pa_cons (Ov.pe_fldK (K := K) rfl (pv 4) rfl) (pa_cons (pe_meth0 (Ov.pe_fldK (K := K) rfl (pv 4) rfl) T.c_Hall T.m_Hall_brought G_Hall_brought (hr.mono (by omega)) T.b_Hall_brought .nil pass0) pa_nil))))))), ?_⟩
  refine ⟨_, rfl, _, rfl, _, rfl, sml 0, fun la hla0 => ?_⟩
  have s1 := Same.new (o := .lst []) hla0
  have ela : upd H la (.lst []) la = some (.lst []) := upd_same
  generalize upd H la (.lst []) = H1 at s1 ela ⊢
  refine ⟨sml 0, fun lb hlb0 => ?_⟩
  have s2 := Same.new (o := .lst []) hlb0
  have elb : upd H1 lb (.lst []) lb = some (.lst []) := upd_same
  have ela2 := s2 _ _ ela
  generalize upd H1 lb (.lst []) = H2 at s2 elb ela2 ⊢
  have s12 := s1.trans s2
  refine ⟨_, rfl, v, t, pr, ps, st, dn, far, room, la, lb, z, rfl, hpre.keep (Keep.same s12), hdn, hfar, hfr, hr64, ela2, elb, hz0, hz1, fun H3 x tt oth cs s3 fsa r3 e3 hcs ewy eL en ef hlok => ?_⟩
  have s13 := s12.trans s3
  obtain ⟨Hx, i3, m1, m2, m3⟩ := r3.hl
  refine ⟨_, rfl, x.a, _, _, _, _, rfl, r3.ob, T.c_RoomRun, T.a_RoomRun_told, rfl, _, rfl, x.a, _, _, _, _, rfl, r3.ob, T.c_RoomRun, T.a_RoomRun_said, rfl, ?_⟩
  refine ⟨_, rfl, x.a, _, _, _, _, rfl, r3.ob, T.c_RoomRun, T.a_RoomRun_hall, rfl, x.hx.a, _, _, rfl, i3.at_.ob, rfl, Hx, x.hx, _, _, _, _, _, rfl, i3, ?_⟩
  refine ⟨sml 3, fun r hr0 => ?_⟩
  have s4 := Same.new (o := .tup [.ref tt, .ref x.sa, .int ((x.sum (evR pr z).st.row).2 : Nat)]) hr0
  have eq : (x.sum (evR pr z).st.row).2 = inR pr ps dn cs room z := by
    unfold PR.sum Ov.inR costT
    rw [ewy, eL, en]
  rw [ewy, eL, ef] at hlok
  refine q _ r tt x.sa cs (s13.trans s4) (Same.free s12 fsa) ?_ (s4 _ _ e3) (s4 _ _ r3.sa) hcs hlok
  rw [upd_same, eq]
end
end K07

namespace K07
open PySem PySem.Spec PyProof.Rows L2 Ov
section
variable {P : Program} {w : World} {K : PySem.W.Frag} {mg : Str → Option Value} {base : Heap}
theorem sc_law_renamed : FnScope ["_law_body_here", "_law_names", "_law_arms", "_law_arm"] ["_law_body_here", "_law_names"] (defScope s_law_renamed) := ⟨rfl, rfl, rfl, by decide +kernel, rfl, by decide +kernel, by decide +kernel⟩
-- 0 _law_body_here, 1 _law_names, 2 _law_arms, 3 _law_arm
theorem ok_law_renamedS (T : Txt w K mg) {d : Nat} (G_law_renamed : FnOk P w K mg base CX0 d (He.ga K "_law_renamed") (fdOf K d_law_renamed) ["_law_body_here", "_law_names"] (spRen d)) :
    FnOk P w K mg base CX0 (d + 1) (He.ga K "_law_renamed") (fdOf K d_law_renamed) ["_law_body_here", "_law_names"] (spRen (d + 1)) := by
  refine T.F_law_renamed.ok sc_law_renamed (fun vs H Q E h => ?_) (fun cdv A outer s H vs Q E hr h => ?_)
  · obtain ⟨v, l, n, ns, u, rfl, _⟩ := h
    rfl
  obtain ⟨v, l, n, ns, u, rfl, hv, ok, hl, hn, q⟩ := h
  cases hv with
  | @mk a o g vs as ha hs =>
  cases ok with
  | mk h1 h2 h3 =>
  refine ⟨_, PSs.nox (pss_cons (ps_if (pt_cmpR op_eq (pe_ix (r := rIxT K) ix_tup (pv 0) pe_int (fun _ _ => rfl)) pe_str (nomark _)) (pss_one (ps_ret (pe_tup (pa_cons pe_str (pa_cons (pe_ix (r := rIxL K) ix_list (pv 1) (pe_ix (r := rIxT K) ix_tup (pv 0) pe_int (fun _ _ => rfl)) (fun _ _ => rfl)) pa_nil))))) pss_nil)
      (pss_cons (ps_setLc (i := 2) (own := [("_law_arm", 3)]) rfl sc_law_renamed.nd rfl rfl (sw_true rfl rfl rfl (by decide +kernel)) (Ov.pi_tupK (K := K) rfl (pe_slice (r := rSlA K) sl_tupA (pv 0) (po_some pe_int) po_none)) (blkOk_by (own := [("_law_arm", 3)]) (N := ["_law_body_here", "_law_names", "_law_arms", "_law_arm"]) (sc := defScope s_law_renamed) (by decide +kernel)) (fun _ _ _ _ _ => (pg_name (i := 3) sc_law_renamed.nd rfl (by first | exact Or.inl rfl | exact Or.inr rfl))) (fun _ _ _ _ _ => pts_nil) (fun _ _ _ _ _ => (pe_ifExp (pt_val (pe_callB (r := rIsi K) call_isi (by rfl) T.z_isinstance (by decide +kernel) (pa_cons (pv 3) (pa_cons (pe_bltn (v := .ty "tuple") (by rfl) T.z_tuple (by decide +kernel) rfl) pa_nil)))) (pe_call G_law_renamed (hr.mono (by omega)) (by rfl) T.g_law_renamed T.kp_law_renamed T.b_law_renamed .nil pass0 (pa_cons (pv 3) (pa_cons (pv 1) pa_nil))) (pv 3))))
      (pss_one (ps_ret (pe_ifExp (pt_cmpR op_eq (pe_ix (r := rIxT K) ix_tup (pv 0) pe_int (fun _ _ => rfl)) pe_str (nomark _)) (pe_tup (pa_cons pe_str (pa_cons (pe_ix (r := rIxL K) ix_list (pv 1) (pe_ix (r := rIxT K) ix_tup (pv 0) pe_int (fun _ _ => rfl)) (fun _ _ => rfl)) (pa_cons (pe_ix (r := rIxL K) ix_list (pv 2) pe_int (fun _ _ => rfl)) pa_nil)))) (pe_op (r := rCatT K) op_catT (pe_tup (pa_cons (pe_ix (r := rIxT K) ix_tup (pv 0) pe_int (fun _ _ => rfl)) pa_nil)) (pe_callTy (r := Ov.rTupS K) call_tuple_of (by rfl) T.z_tuple (by decide +kernel) (pa_cons (pv 2) pa_nil)))))))), ?_⟩
  have hlen := hs.length
  have hl40 : as.length ≤ 3 := by rw [h1]; cases o <;> decide
  have hpre := pre_le o g
  refine ⟨_, rfl, a, _, 0, _, rfl, rfl, SqT.of ha, atI_nat (j := 0) rfl, rfl, _, rfl, ?_⟩
  rw [name_way]
  by_cases hw : o = .way
  · subst hw
    rw [decide_eq_true rfl]
    refine iteT ?_
    obtain ⟨k, rfl⟩ : ∃ k : Nat, g = (k : Int) := ⟨g.toNat, by have := h2.1; omega⟩
    have hk : k < ns.length := by have := h2.2; omega
    obtain rfl : as = [] := List.length_eq_zero_iff.mp h1
    cases hs
    refine ⟨_, rfl, _, rfl, a, _, 1, _, rfl, rfl, SqT.of ha, atI_nat (j := 1) rfl, l, _, _, _, rfl, rfl, SqL.of hl, atI_nat (nm_at hk), sml 2, fun p hp => ?_⟩
    refine q _ _ (Same.new hp) ?_
    rw [ren_mk, renG_way]
    exact .mk upd_same .nil
  rw [decide_eq_false hw]
  refine iteF ?_
  refine ⟨_, rfl, 1, rfl, ?_⟩
  dsimp only [tNoPart]
  refine slA_by (.inl ha) fun H1 zc s1 hzc => ?_
  rw [show cutV (V.str o.name :: (o.pre g ++ vs)) (some 1) none = o.pre g ++ vs from cut_from (V.str o.name :: (o.pre g ++ vs)) 1 (by rw [List.length_cons]; omega)] at hzc
  refine ⟨zc, rfl, ⟨_, hzc.sq⟩, fun D hD => ?_⟩
  refine lc_itY (walk_tup (K := K) (a := zc) (xs := o.pre g ++ vs)) (fun i H' => Same H1 H' ∧ ∃ ws, H' D = some (.lst ((o.pre g).take i ++ ws)) ∧ WsAt H' ws ((as.take (i - (o.pre g).length)).map (W.ren (nmF ns)))) ⟨Same.new hD, [], by rw [upd_same]; rfl, by rw [Nat.zero_sub]; exact .nil⟩ (fun i H' _ z => (hzc.keep (Keep.same z.1)).sq) ?_ ?_
  · rintro i x H2 H2' hi ⟨s2, ws, e2, hws⟩ ⟨rfl, hx⟩
    refine ⟨rfl, ?_⟩
    have wl : ws.length ≤ 3 := by
      have z := hws.length
      rw [List.length_map, List.length_take] at z
      omega
    by_cases hi0 : i < (o.pre g).length
    · rw [List.getElem?_append_left hi0] at hx
      obtain ⟨rfl, rfl⟩ := pre_at hx
      have e0 : o.pre g = [.int g] := by
        unfold Op.pre at hx ⊢
        split at hx
        · rename_i c
          rw [if_pos c]
        · cases hx
      refine ⟨_, rfl, _, .ty "tuple", .type "int", .type "tuple", false, rfl, .ty _, .base (.int g), k_int_tuple, false, rfl, iteF ⟨_, rfl, _, e2, sm _ (by simp; omega), Ov.Same.updn s2 hD, ws, ?_, ?_⟩⟩
      · rw [upd_same, e0]
        have : ws = [] := by
          have z := hws.length
          rw [Nat.zero_sub, List.take_zero, List.map_nil, List.length_nil] at z
          exact List.length_eq_zero_iff.mp z
        rw [this]
        rfl
      · rw [e0, show 0 + 1 - [V.int g].length = 0 from rfl]
        rw [Nat.zero_sub] at hws
        have z := hws.length
        rw [List.take_zero, List.map_nil, List.length_nil] at z
        rw [List.length_eq_zero_iff.mp z]
        exact WsAt.nil
    · rw [List.getElem?_append_right (by omega)] at hx
      obtain ⟨u, hu, hxu⟩ := WsAt.get hs hx
      have hk := h3 u (List.mem_of_getElem? hu)
      have s02 := s1.trans s2
      have hxu2 := hxu.keep (Keep.same s02)
      obtain ⟨b, xs, rfl, hb⟩ := hxu2.ref
      refine ⟨_, rfl, _, .ty "tuple", .type "tuple", .type "tuple", true, rfl, .ty _, .base (.tup hb), k_tuple_tuple, true, rfl, iteT ⟨_, rfl, _, rfl, _, l, n, ns, u, rfl, hxu2, hk, s02 _ _ hl, hn, fun H3 v3 s3 hv3 => ⟨_, s3 _ _ e2, sm _ (by simp; omega), Ov.Same.updn (s2.trans s3) hD, ws ++ [v3], ?_, ?_⟩⟩⟩
      · rw [upd_same, List.append_assoc, List.take_of_length_le (by omega), List.take_of_length_le (by omega)]
      · have kD : Keep H3 (upd H3 D (.lst ((o.pre g).take i ++ ws ++ [v3]))) := Keep.updL (s3 _ _ e2)
        rw [show i + 1 - (o.pre g).length = i - (o.pre g).length + 1 by omega, List.take_add_one, hu, List.map_append]
        exact WsAt.app ((hws.keep (Keep.same s3)).keep kD) (.cons (hv3.keep kD) .nil)
  · rintro H2 ⟨s2, ws, e2, hws⟩
    rw [List.length_append, Nat.add_sub_cancel_left, hlen, List.take_length, List.take_of_length_le (by omega)] at *
    have s02 := s1.trans s2
    have ha2 := s02 _ _ ha
    have hl2 := s02 _ _ hl
    show gName 2 (V.ref D) [some (.ref a), some (.ref l), none, none] _ _
    refine ⟨_, rfl, a, _, 0, _, rfl, rfl, SqT.of ha2, atI_nat (j := 0) rfl, rfl, _, rfl, ?_⟩
    rw [name_call]
    by_cases hcall : o = .call
    · subst hcall
      rw [decide_eq_true rfl]
      refine iteT ?_
      obtain ⟨k, rfl⟩ : ∃ k : Nat, g = (k : Int) := ⟨g.toNat, by have := h2.1; omega⟩
      have hk : k < ns.length := by have := h2.2; omega
      obtain ⟨w0, rfl⟩ : ∃ w0, as = [w0] := List.length_eq_one_iff.mp h1
      obtain ⟨v1, rfl⟩ : ∃ v1, ws = [v1] := List.length_eq_one_iff.mp (by rw [hws.length]; rfl)
      refine ⟨_, rfl, _, rfl, a, _, 1, _, rfl, rfl, SqT.of ha2, atI_nat (j := 1) rfl, l, _, _, _, rfl, rfl, SqL.of hl2, atI_nat (nm_at hk), _, rfl, D, _, 1, _, rfl, rfl, SqL.of e2, atI_nat (j := 1) rfl, sml 3, fun p hp => ?_⟩
      refine q _ _ (s02.trans (Same.new hp)) ?_
      rw [ren_mk, renG_call]
      exact .mk upd_same (hws.keep (Keep.same (Same.new hp)))
    · rw [decide_eq_false hcall]
      refine iteF ?_
      refine ⟨_, rfl, a, _, 0, _, rfl, rfl, SqT.of ha2, atI_nat (j := 0) rfl, sml 1, fun p hp => ?_⟩
      have s3 := Same.new (o := .tup [.str o.name]) hp
      have ep : upd H2 p (.tup [.str o.name]) p = some (.tup [.str o.name]) := upd_same
      generalize upd H2 p (.tup [.str o.name]) = H3 at s3 ep ⊢
      refine ⟨_, rfl, D, _, rfl, .inl ⟨SqL.of (s3 _ _ e2), fun t ht => ?_⟩⟩
      have s4 := Same.new (o := .tup (o.pre g ++ ws)) ht
      have et : upd H3 t (.tup (o.pre g ++ ws)) t = some (.tup (o.pre g ++ ws)) := upd_same
      generalize upd H3 t (.tup (o.pre g ++ ws)) = H4 at s4 et ⊢
      have wl : ws.length ≤ 3 := by
        have z := hws.length
        rw [List.length_map] at z
        omega
      have s24 := s3.trans s4
      refine ⟨p, t, _, _, rfl, rfl, SqT.of (s4 _ _ ep), SqT.of et, List.cons_ne_nil _ _, sml _ (by simp; omega), fun e => ?_, fun _ r hr => ?_⟩
      · refine q _ _ (s02.trans s24) ?_
        rw [ren_mk, renG_id hw hcall]
        obtain ⟨e1, e3⟩ := List.append_eq_nil_iff.mp e
        subst e3
        have hws' := hws.keep (Keep.same s24)
        refine .mk (vs := []) ?_ hws'
        rw [e1]
        exact s4 _ _ ep
      · have s5 := Same.new (o := .tup ([.str o.name] ++ (o.pre g ++ ws))) hr
        refine q _ _ ((s02.trans s24).trans s5) ?_
        rw [ren_mk, renG_id hw hcall]
        exact .mk upd_same ((hws.keep (Keep.same s24)).keep (Keep.same s5))
theorem ok_law_renamed (T : Txt w K mg) : ∀ d : Nat, FnOk P w K mg base CX0 d (He.ga K "_law_renamed") (fdOf K d_law_renamed) ["_law_body_here", "_law_names"] (spRen d)
  | 0 => fn0 fun vs H Q E ⟨_, _, _, _, _, _, _, h, _⟩ => nomatch h
  | d + 1 => ok_law_renamedS T (ok_law_renamed T d)
end
end K07

namespace K07
open PySem PySem.Spec PyProof.Rows L2 Ov
section
variable {P : Program} {w : World} {K : PySem.W.Frag} {mg : Str → Option Value} {base : Heap}
def osc_other1 : Scope := { kind := .function, names := [(".0", .local), ("_law_part", .local), ("tuple", .globalImplicit), ("sorted", .globalImplicit), ("_law_names", .cell)], isGenerator := false, isCoroutine := false }
theorem sc_law_other : FnScope ["_law_h", "_law_program_here", "_law_tree_here", "_law_left", "_law_names", "_law_other_here", "_law_k", "_law_parts", "_law_order", "_law_stands", "_law_under", "_law_at", "_law_part", "_law_one"] ["_law_h", "_law_program_here", "_law_tree_here"] (defScope s_law_other) := ⟨rfl, rfl, rfl, by decide +kernel, rfl, by decide +kernel, by decide +kernel⟩
-- 0 _law_h, 1 _law_program_here, 2 _law_tree_here, 3 _law_left, 4 _law_names, 5 _law_other_here, 6 _law_k, 7 _law_parts, 8 _law_order, 9 _law_stands, 10 _law_under, 11 _law_at, 12 _law_part, 13 _law_one
theorem ok_law_other (T : Txt w K mg) : FnOk P w K mg base CX0 8 (He.ga K "_law_other") (fdOf K d_law_other) ["_law_h", "_law_program_here", "_law_tree_here"] (spOther K) := by
  have G_law_next := ok_law_next (P := P) (base := base) T
  have G_law_renamed := ok_law_renamed (P := P) (base := base) T 7
  refine T.F_law_other.ok sc_law_other (fun vs H Q E h => ?_) (fun cdv A outer s H vs Q E hr h => ?_)
  · obtain ⟨h, c, v, t, pr, ps, st, rfl, _⟩ := h
    rfl
  obtain ⟨h, c, v, t, pr, ps, st, rfl, hd, hpre, q⟩ := h
  refine ⟨_, PSs.nox (pss_cons (ps_set (i := 3) sc_law_other.nd rfl (by first | exact Or.inl rfl | exact Or.inr rfl) (pe_listRg rfl (by rfl) T.z_list (prg_2 (by rfl) T.z_range pe_int (pe_callB (r := Evl.rLenS K) call_len_seq (by rfl) T.z_len PySem.boot_len (pa_cons (pv 1) pa_nil)))))
      (pss_cons (ps_set (i := 4) sc_law_other.nd rfl (by first | exact Or.inl rfl | exact Or.inr rfl) (pe_op op_cat (pe_lst (pa_cons pe_int pa_nil)) (pe_lc (own := [("_law_k", 6)]) rfl sc_law_other.nd (pi_range1 (by rfl) T.z_range (pa_cons (pe_op op_sub (pe_callB (r := Evl.rLenS K) call_len_seq (by rfl) T.z_len PySem.boot_len (pa_cons (pv 1) pa_nil)) pe_int) pa_nil)) (by first | exact blkOk_by (own := [("_law_k", 6)]) (N := ["_law_h", "_law_program_here", "_law_tree_here", "_law_left", "_law_names", "_law_other_here", "_law_k", "_law_parts", "_law_order", "_law_stands", "_law_under", "_law_at", "_law_part", "_law_one"]) (sc := defScope s_law_other) (by decide +kernel) | exact blkOk_by (own := [("_law_k", 6)]) (N := ["_law_h", "_law_program_here", "_law_tree_here", "_law_left", "_law_names", "_law_other_here", "_law_k", "_law_parts", "_law_order", "_law_stands", "_law_under", "_law_at", "_law_part", "_law_one"]) (sc := osc_other1) (by decide +kernel)) (fun _ _ _ _ _ => (pg_name (i := 6) sc_law_other.nd rfl (by first | exact Or.inl rfl | exact Or.inr rfl))) (fun _ _ _ _ _ => pts_nil) (fun _ _ _ _ _ => (Ov.pe_bmK (K := K) rfl PySem.F.plainAttrs_list PySem.F.slot_list_pop PySem.F.type_list_pop mt_popAt (pv 3) (pa_cons (pe_call G_law_next (hr.mono (by omega)) (by rfl) T.g_law_next T.kp_law_next T.b_law_next .nil pass0 (pa_cons (pv 0) (pa_cons (pe_callB (r := Evl.rLenS K) call_len_seq (by rfl) T.z_len PySem.boot_len (pa_cons (pv 3) pa_nil)) pa_nil))) pa_nil))))))
      (pss_cons (ps_set (i := 5) sc_law_other.nd rfl (by first | exact Or.inl rfl | exact Or.inr rfl) (pe_op op_rep (pe_lst (pa_cons pe_non pa_nil)) (pe_callB (r := Evl.rLenS K) call_len_seq (by rfl) T.z_len PySem.boot_len (pa_cons (pv 1) pa_nil))))
      (pss_cons (ps_for PassesOwn.never rfl (pi_range1 (by rfl) T.z_range (pa_cons (pe_callB (r := Evl.rLenS K) call_len_seq (by rfl) T.z_len PySem.boot_len (pa_cons (pv 1) pa_nil)) pa_nil)) (pg_name (i := 6) sc_law_other.nd rfl (by first | exact Or.inl rfl | exact Or.inr rfl)) (pss_one (ps_asg (pe_tup (pa_cons (pe_ix (r := rIxT K) ix_tup (pe_ix (r := rIxT K) ix_tup (pv 1) (pv 6) (fun _ _ => rfl)) pe_int (fun _ _ => rfl)) (pa_cons (pe_call G_law_renamed (hr.mono (by omega)) (by rfl) T.g_law_renamed T.kp_law_renamed T.b_law_renamed .nil pass0 (pa_cons (pe_ix (r := rIxT K) ix_tup (pe_ix (r := rIxT K) ix_tup (pv 1) (pv 6) (fun _ _ => rfl)) pe_int (fun _ _ => rfl)) (pa_cons (pv 4) pa_nil))) pa_nil))) (pg_sub (pv 5) (pe_ix (r := rIxL K) ix_list (pv 4) (pv 6) (fun _ _ => rfl)) set_list))))
      (pss_cons (ps_setLc (i := 7) (own := [("_law_part", 12)]) rfl sc_law_other.nd rfl rfl (sw_true rfl rfl rfl (by decide +kernel)) (Ov.pi_tupK (K := K) rfl (pe_ix (r := rIxT K) ix_tup (pv 2) pe_int (fun _ _ => rfl))) (by first | exact blkOk_by (own := [("_law_part", 12)]) (N := ["_law_h", "_law_program_here", "_law_tree_here", "_law_left", "_law_names", "_law_other_here", "_law_k", "_law_parts", "_law_order", "_law_stands", "_law_under", "_law_at", "_law_part", "_law_one"]) (sc := defScope s_law_other) (by decide +kernel) | exact blkOk_by (own := [("_law_part", 12)]) (N := ["_law_h", "_law_program_here", "_law_tree_here", "_law_left", "_law_names", "_law_other_here", "_law_k", "_law_parts", "_law_order", "_law_stands", "_law_under", "_law_at", "_law_part", "_law_one"]) (sc := osc_other1) (by decide +kernel)) (fun _ _ _ _ _ => (pg_name (i := 12) sc_law_other.nd rfl (by first | exact Or.inl rfl | exact Or.inr rfl))) (fun _ _ _ _ _ => pts_nil) (fun _ _ _ _ _ => (pe_callTy (r := Ov.rTupS K) call_tuple_of (by rfl) T.z_tuple (by decide +kernel) (pa_cons (pe_callB (r := rSorted K) cr_sorted (by rfl) T.z_sorted (by decide +kernel) (pa_cons (pe_lc (own := [("_law_one", 13)]) rfl sc_law_other.nd (Ov.pi_tupK (K := K) rfl (pv 12)) (by first | exact blkOk_by (own := [("_law_one", 13)]) (N := ["_law_h", "_law_program_here", "_law_tree_here", "_law_left", "_law_names", "_law_other_here", "_law_k", "_law_parts", "_law_order", "_law_stands", "_law_under", "_law_at", "_law_part", "_law_one"]) (sc := defScope s_law_other) (by decide +kernel) | exact blkOk_by (own := [("_law_one", 13)]) (N := ["_law_h", "_law_program_here", "_law_tree_here", "_law_left", "_law_names", "_law_other_here", "_law_k", "_law_parts", "_law_order", "_law_stands", "_law_under", "_law_at", "_law_part", "_law_one"]) (sc := osc_other1) (by decide +kernel)) (fun _ _ _ _ _ => (pg_name (i := 13) sc_law_other.nd rfl (by first | exact Or.inl rfl | exact Or.inr rfl))) (fun _ _ _ _ _ => pts_nil) (fun _ _ _ _ _ => (pe_ix (r := rIxL K) ix_list (pv 4) (pv 13) (fun _ _ => rfl)))) pa_nil)) pa_nil))))
      (pss_cons (ps_set (i := 8) sc_law_other.nd rfl (by first | exact Or.inl rfl | exact Or.inr rfl) (pe_callB (r := Ov.rSortedT K) Ov.cr_sortedT (by rfl) T.z_sorted (by decide +kernel) (pa_cons (pv 7) pa_nil)))
      (pss_cons (ps_set (i := 9) sc_law_other.nd rfl (by first | exact Or.inl rfl | exact Or.inr rfl) (pe_op op_rep (pe_lst (pa_cons pe_int pa_nil)) (pe_callB (r := Evl.rLenS K) call_len_seq (by rfl) T.z_len PySem.boot_len (pa_cons (pv 7) pa_nil))))
      (pss_cons (ps_for PassesOwn.never rfl (pi_range1 (by rfl) T.z_range (pa_cons (pe_callB (r := Evl.rLenS K) call_len_seq (by rfl) T.z_len PySem.boot_len (pa_cons (pv 7) pa_nil)) pa_nil)) (pg_name (i := 6) sc_law_other.nd rfl (by first | exact Or.inl rfl | exact Or.inr rfl)) (pss_cons (ps_set (i := 10) sc_law_other.nd rfl (by first | exact Or.inl rfl | exact Or.inr rfl) (pe_ix (r := rIxT K) ix_tup (pe_ix (r := rIxT K) ix_tup (pv 2) pe_int (fun _ _ => rfl)) (pv 6) (fun _ _ => rfl)))
      (pss_cons (ps_set (i := 11) sc_law_other.nd rfl (by first | exact Or.inl rfl | exact Or.inr rfl) (Ov.pe_bmK (K := K) rfl PySem.F.plainAttrs_list PySem.F.slot_list_index PySem.F.type_list_index (mt_indexD (Ov.hu65 hr)) (pv 8) (pa_cons (pe_ix (r := rIxL K) ix_list (pv 7) (pv 6) (fun _ _ => rfl)) pa_nil)))
      (pss_one (ps_asg (pe_ifExp (pt_cmpR op_ge (pv 10) pe_int (nomark _)) (Ov.pe_bmK (K := K) rfl PySem.F.plainAttrs_list PySem.F.slot_list_index PySem.F.type_list_index (mt_indexD (Ov.hu65 hr)) (pv 8) (pa_cons (pe_ix (r := rIxL K) ix_list (pv 7) (pv 10) (fun _ _ => rfl)) pa_nil)) (pe_un un_neg pe_int)) (pg_sub (pv 9) (pv 11) set_list))))))
      (pss_one (ps_ret (pe_tup (pa_cons (pv 4) (pa_cons (pe_callTy (r := Ov.rTupS K) call_tuple_of (by rfl) T.z_tuple (by decide +kernel) (pa_cons (pv 5) pa_nil)) (pa_cons (pe_tup (pa_cons (pe_callTy (r := Ov.rTupS K) call_tuple_of (by rfl) T.z_tuple (by decide +kernel) (pa_cons (pv 8) pa_nil)) (pa_cons (pe_callTy (r := Ov.rTupS K) call_tuple_of (by rfl) T.z_tuple (by decide +kernel) (pa_cons (pv 9) pa_nil)) pa_nil))) pa_nil)))))))))))))), ?_⟩
  have hok := hpre.2.1
  have n1 := hok.l1
  have n8 := hok.l8
  obtain ⟨pa, vp, rfl, hpa, hpf⟩ := id hpre.1
  have hpl : vp.length = pr.length := Paired.length hpf
  refine ⟨_, rfl, pa, _, rfl, .inr (SqT.of hpa), ?_⟩
  rw [hpl]
  refine ⟨1, _, rfl, rfl, RgOk.of_le (by omega) (by omega) (by omega) (by omega), fun l hl => ?_⟩
  rw [rgV_one]
  have nl := Dr.new hd hl
  have s1 := Same.new (o := .lst (nV ((List.range (pr.length - 1)).map (1 + ·)))) hl
  have el1 : upd H l (.lst (nV ((List.range (pr.length - 1)).map (1 + ·)))) l = some (.lst (nV ((List.range (pr.length - 1)).map (1 + ·)))) := upd_same
  have d1 := hd.same s1
  generalize upd H l (.lst (nV ((List.range (pr.length - 1)).map (1 + ·)))) = H1 at s1 el1 d1 ⊢
  show tSeq _ _ _ [some (.ref h), some (.ref pa), some t, some (.ref l), none, none, none, none, none, none, none, none, none, none] _
  -- names
  refine ⟨sml 1, fun z0 hz0 => ?_⟩
  have nz := Dr.new d1 hz0
  have nlz : l ≠ z0 := ne_of_none el1 hz0
  have s2 := Same.new (o := .lst [V.int 0]) hz0
  have ez2 : upd H1 z0 (.lst [V.int 0]) z0 = some (.lst [V.int 0]) := upd_same
  have d2 := d1.same s2
  have el2 := s2 _ _ el1
  have f2 : H z0 = none := Same.free s1 hz0
  generalize upd H1 z0 (.lst [V.int 0]) = H2 at s2 ez2 d2 el2 ⊢
  refine ⟨_, rfl, pa, _, rfl, .inr (SqT.of (s2 _ _ (s1 _ _ hpa))), ?_⟩
  rw [hpl]
  refine ⟨_, _, rfl, rfl, _, rfl, by omega, by omega, fun D hD => ?_⟩
  have nD := Dr.new d2 hD
  have nDl : l ≠ D := ne_of_none el2 hD
  have nDz : z0 ≠ D := ne_of_none ez2 hD
  have s12 := s1.trans s2
  have fD : H D = none := Same.free s12 hD
  refine lc_rangeY (lo := 0) (n := ((pr.length : Int) - 1).toNat) (fun i H' => ∃ od lf : List Nat, But h c H H' ∧ Dr H' h c ∧ H' z0 = some (.lst [V.int 0]) ∧ H' l = some (.lst (nV lf)) ∧ H' D = some (.lst (nV od)) ∧ od.length = i ∧ (od ++ lf).Perm ((List.range (pr.length - 1)).map (1 + ·)))
    ⟨[], _, (But.same s12).trans (But.new hD), d2.same (Same.new hD), by rw [upd_ne nDz]; exact ez2, by rw [upd_ne nDl]; exact el2, upd_same, rfl, List.Perm.refl _⟩ ?_ ?_
  · rintro i H3 hi ⟨od, lf, b3, d3, hz3, hl3, hD3, hod, hpm⟩
    have hlf : od.length + lf.length = pr.length - 1 := by
      have z := hpm.length_eq
      rw [List.length_append, List.length_map, List.length_range] at z
      exact z
    refine ⟨rfl, _, rfl, .inl ⟨rfl, _, SqL.of hl3⟩, _, rfl, _, rfl, l, _, rfl, .inl (SqL.of hl3), ?_⟩
    refine ⟨h, c, _, rfl, d3, by rw [nV_len]; omega, by rw [nV_len]; omega, fun r H4 r0 r1 b4 d4 => ?_⟩
    rw [nV_len] at r1
    obtain ⟨j, rfl⟩ : ∃ j : Nat, r = (j : Int) := ⟨r.toNat, by omega⟩
    have hj : j < lf.length := by omega
    have hl4 := b4 _ _ nl.1 nl.2 hl3
    have hD4 := b4 _ _ nD.1 nD.2 hD3
    have hz4 := b4 _ _ nz.1 nz.2 hz3
    have hjx := List.getElem?_eq_getElem hj
    refine ⟨l, nV lf, j, j, .int ((lf[j] : Nat) : Int), rfl, rfl, hl4, by omega, by omega, ?_, nV_get hjx, ?_⟩
    · have z : ((j : Nat) : Int) < (((nV lf).length : Nat) : Int) := by rw [nV_len]; omega
      rw [PySem.seqIndex_of (by omega) z, Int.toNat_natCast]
    refine ⟨nV od, by rw [upd_ne nDl.symm]; exact hD4, sm _ (by rw [nV_len]; omega), od ++ [lf[j]], lf.eraseIdx j, ((b3.trans b4).updn hl).updn fD, (d4.upd nl.1 nl.2).upd nD.1 nD.2, by rw [upd_ne nDz, upd_ne nlz.symm]; exact hz4, by rw [upd_ne nDl, upd_same, nV_erase], by rw [upd_same, nV_app], by rw [List.length_append, hod]; rfl, ?_⟩
    rw [List.append_assoc]
    exact (List.Perm.append_left od (Ov.erase_perm lf j _ hjx)).trans hpm
  rintro H3 ⟨od, lf, b3, d3, hz3, hl3, hD3, hod, hpm⟩
  have elf : lf = [] := by
    have z := hpm.length_eq
    rw [List.length_append, List.length_map, List.length_range, hod] at z
    exact List.length_eq_zero_iff.mp (by omega)
  subst elf
  rw [List.append_nil] at hpm
  have hperm := names_perm hok.l1 hpm
  have fl1 : H l = none := hl
  refine ⟨z0, D, _, _, rfl, rfl, hz3, hD3, sml _ (by rw [nV_len]; simp; omega), fun ln hln => ?_⟩
  rw [show [V.int 0] ++ nV od = nV (0 :: od) from rfl]
  have nn := Dr.new d3 hln
  have s4 := Same.new (o := .lst (nV (0 :: od))) hln
  have eln : upd H3 ln (.lst (nV (0 :: od))) ln = some (.lst (nV (0 :: od))) := upd_same
  have d4 := d3.same s4
  have b4 := b3.trans (But.same s4)
  generalize upd H3 ln (.lst (nV (0 :: od))) = H4 at s4 eln d4 b4 ⊢
  clear hz3 hl3 hD3 s4 d3 b3 hln el2 ez2 d2 s2 s12 el1 s1 d1 hz0 hD
  have hnl : (0 :: od).length = pr.length := by rw [hperm.length_eq, List.length_range]
  have hn0 : nmF (0 :: od) 0 = 0 := rfl
  generalize 0 :: od = ns at eln hperm hnl hn0 ⊢
  have hpre4 := hpre.keep (Keep.but b4 hd)
  show gName 4 (V.ref ln) [some (.ref h), some (.ref pa), some t, some (.ref l), none, none, none, none, none, none, none, none, none, none] _ _
  -- the functions by other numbers
  have eln4 := eln
  obtain ⟨pa', vp', e, hpa4, hpf4⟩ := id hpre4.1
  cases e
  have hpl4 : vp'.length = pr.length := Paired.length hpf4
  refine ⟨sml 1, fun o0 ho0 => ⟨_, rfl, pa, _, rfl, .inr (SqT.of (Same.new ho0 _ _ hpa4)), ?_⟩⟩
  rw [hpl4]
  refine ⟨o0, (pr.length : Int), _, rfl, rfl, upd_same, by omega, by omega, sml _ (by rw [List.length_singleton, Int.toNat_natCast]; omega), fun oh hoh => ?_⟩
  rw [Int.toNat_natCast, List.flatten_replicate_singleton]
  have s5 := (Same.new (o := .lst [V.non]) ho0).trans (Same.new (o := .lst (List.replicate pr.length V.non)) hoh)
  have foh : H4 oh = none := Same.free (Same.new (o := .lst [V.non]) ho0) hoh
  have eoh : upd (upd H4 o0 (.lst [V.non])) oh (.lst (List.replicate pr.length V.non)) oh = some (.lst (List.replicate pr.length V.non)) := upd_same
  generalize upd (upd H4 o0 (.lst [V.non])) oh (.lst (List.replicate pr.length V.non)) = H5 at s5 eoh ⊢
  show tSeq _ _ _ [some (.ref h), some (.ref pa), some t, some (.ref l), some (.ref ln), some (.ref oh), none, none, none, none, none, none, none, none] _
  refine ⟨_, rfl, pa, _, rfl, .inr (SqT.of (s5 _ _ hpa4)), ?_⟩
  rw [hpl4]
  refine ⟨_, rfl, by omega, by omega, ?_⟩
  refine for_range (lo := 0) (n := ((pr.length : Nat) : Int).toNat) (fun i σ' H' => ∃ (y6 : Option V) (us : List V), σ' = [some (.ref h), some (.ref pa), some t, some (.ref l), some (.ref ln), some (.ref oh), y6, none, none, none, none, none, none, none] ∧ Same H4 H' ∧ H' oh = some (.lst us) ∧ us.length = pr.length ∧ ∀ k f, k < i → pr[k]? = some f → ∃ u, us[nmF ns k]? = some u ∧ FAt H' u (f.1, f.2.ren (nmF ns)))
    ⟨_, _, rfl, s5, eoh, List.length_replicate, fun k f z => absurd z (Nat.not_lt_zero _)⟩ ?_ ?_
  · rintro i σ' H6 hi ⟨y6, us, rfl, s6, e6, hul, hus⟩
    rw [Int.toNat_natCast] at hi
    rw [show (0 : Int) + (i : Int) = ((i : Nat) : Int) from Int.zero_add _]
    have hvi : vp'[i]? = some vp'[i] := List.getElem?_eq_getElem (by omega)
    obtain ⟨f, hfi, hfa⟩ := Paired.get2 hpf4 hvi
    generalize vp'[i] = vi at hvi hfa
    obtain ⟨b, bv, rfl, hb, hw⟩ := hfa
    have fok := hok.f f (List.mem_of_getElem? hfi)
    have hpa6 := s6 _ _ hpa4
    have hb6 := s6 _ _ hb
    refine ⟨_, rfl, _, rfl, pa, _, _, _, rfl, rfl, SqT.of hpa6, atI_nat hvi, b, _, 0, _, rfl, rfl, SqT.of hb6, atI_nat (j := 0) rfl, _, rfl, _, rfl, pa, _, _, _, rfl, rfl, SqT.of hpa6, atI_nat hvi, b, _, 1, _, rfl, rfl, SqT.of hb6, atI_nat (j := 1) rfl, _, rfl, bv, ln, pr.length, ns, f.2, rfl, hw.keep (Keep.same s6), fok.2.2.1, s6 _ _ eln4, hnl, fun H7 v7 s7 hv7 => ⟨sml 2, fun tt htt => ?_⟩⟩
    have s8 := Same.new (o := .tup [.int f.1, v7]) htt
    have et : upd H7 tt (.tup [.int f.1, v7]) tt = some (.tup [.int f.1, v7]) := upd_same
    generalize upd H7 tt (.tup [.int f.1, v7]) = H8 at s8 et ⊢
    have s68 := s7.trans s8
    refine ⟨_, rfl, _, rfl, _, rfl, ln, _, _, _, rfl, rfl, SqL.of (s68 _ _ (s6 _ _ eln4)), atI_nat (nm_at (by omega)), ?_⟩
    have hsl := nm_lt hperm hi
    refine ⟨oh, _, _, nmF ns i, rfl, rfl, s68 _ _ e6, Evl.ixN_nat (by omega), ?_⟩
    have kk := Keep.updL (ys := us.set (nmF ns i) (.ref tt)) (s68 _ _ e6)
    refine ⟨_, _, rfl, Ov.Same.updn (s6.trans s68) foh, upd_same, by rw [List.length_set]; exact hul, fun k g hk hg => ?_⟩
    by_cases c : k = i
    · subst c
      rw [hfi] at hg
      cases hg
      refine ⟨.ref tt, by rw [List.getElem?_set_self (by omega)], tt, v7, rfl, kk _ _ et, (hv7.keep (Keep.same s8)).keep kk⟩
    · obtain ⟨u, hu, hfu⟩ := hus k g (by omega) hg
      refine ⟨u, by rw [List.getElem?_set_ne fun e => c (nm_inj hperm e).symm]; exact hu, (hfu.keep (Keep.same s68)).keep kk⟩
  rintro σ6 H6 ⟨y6, us, rfl, s6, e6, hul, hus⟩
  have hus : ∀ k f, pr[k]? = some f → ∃ u, us[nmF ns k]? = some u ∧ FAt H6 u (f.1, f.2.ren (nmF ns)) := fun k f hf => hus k f (by rw [Int.toNat_natCast]; exact (List.getElem?_eq_some_iff.mp hf).1) hf
  clear s5 eoh
  -- the parts
  obtain ⟨a, qa, sa, tu, rfl, hta, hqa, htu, hsa⟩ := id hpre4.2.2.1
  have htr := hpre4.2.2.2
  have hps8 : ps.length ≤ 8 := Nat.le_trans htr.p.count n8
  have htul : tu.length = ps.length := Paired.length htu
  show tSeq _ _ _ [some (.ref h), some (.ref pa), some (.ref a), some (.ref l), some (.ref ln), some (.ref oh), y6, none, none, none, none, none, none, none] _
  refine ⟨_, rfl, a, _, 0, _, rfl, rfl, SqT.of (s6 _ _ hta), atI_nat (j := 0) rfl, qa, rfl, ⟨_, SqT.of (s6 _ _ hqa)⟩, fun D hD => ?_⟩
  refine lc_itY (walk_tup (K := K) (a := qa) (xs := tu)) (fun i H' => ∃ acc qs, Same H6 H' ∧ H' D = some (.lst acc) ∧ Paired (PartAt H') acc qs ∧ Paired (SrP (nmF ns)) qs (ps.take i)) ⟨[], [], Same.new hD, upd_same, .nil, .nil⟩ (fun i H' _ ⟨_, _, z, _⟩ => SqT.of (z _ _ (s6 _ _ hqa))) ?_ ?_
  · rintro i x H7 H7' hi ⟨acc, qs, s7, eD, hacc, hqs⟩ ⟨rfl, hx⟩
    obtain ⟨x0, hpi, b, rfl, hb⟩ := Paired.get2 htu hx
    have hxm := List.mem_of_getElem? hpi
    have hx0 : x0.length ≤ 8 := Nat.le_trans (htr.p.plen hxm) n8
    have hb7 := s7 _ _ (s6 _ _ hb)
    have eln7 := s7 _ _ (s6 _ _ eln4)
    refine ⟨rfl, _, rfl, b, rfl, ⟨_, SqT.of hb7⟩, fun D2 hD2 => ?_⟩
    refine lc_itY (walk_tup (K := K) (a := b) (xs := nV x0)) (fun j H' => Same H7' H' ∧ H' D2 = some (.lst (nV ((x0.take j).map (nmF ns))))) ⟨Same.new hD2, upd_same⟩ (fun j H' _ ⟨z, _⟩ => SqT.of (z _ _ hb7)) ?_ ?_
    · rintro j y H8 H8' hj ⟨s8, e8⟩ ⟨rfl, hy⟩
      obtain ⟨k, hk, rfl⟩ := nV_int hy
      have hkl := htr.p.lt hxm (List.mem_of_getElem? hk)
      refine ⟨rfl, _, rfl, _, rfl, ln, _, _, _, rfl, rfl, SqL.of (s8 _ _ eln7), atI_nat (nm_at (by omega)), _, e8, sm _ (by rw [nV_len, List.length_map, List.length_take]; omega), Ov.Same.updn s8 hD2, ?_⟩
      rw [upd_same, List.take_add_one, hk, List.map_append]
      show _ = some (HO.lst (nV (_ ++ [nmF ns k])))
      rw [nV_app]
    rintro H8 ⟨s8, e8⟩
    rw [nV_len, List.take_length] at e8
    rw [nV_of, show intsN (x0.map (nmF ns)) = (x0.map (nmF ns)).map (fun (x : Nat) => (x : Int)) from rfl] at e8
    refine ⟨D2, _, rfl, SqL.of e8, by rw [List.length_map, List.length_map]; omega, fun ms pp hms hmw hpp => ?_⟩
    obtain ⟨q0, rfl, hq1, hq2⟩ := ints_back hms hmw
    have s9 := Same.new (o := .lst ((intsN q0).map V.int)) hpp
    have e9 : upd H8 pp (.lst ((intsN q0).map V.int)) pp = some (.lst ((intsN q0).map V.int)) := upd_same
    generalize upd H8 pp (.lst ((intsN q0).map V.int)) = H9 at s9 e9 ⊢
    refine ⟨pp, _, rfl, .inl ⟨SqL.of e9, fun tt htt => ?_⟩⟩
    rw [← nV_of]
    have s10 := Same.new (o := .tup (nV q0)) htt
    have et : upd H9 tt (.tup (nV q0)) tt = some (.tup (nV q0)) := upd_same
    generalize upd H9 tt (.tup (nV q0)) = H10 at s10 et ⊢
    have s70 := s8.trans (s9.trans s10)
    have kk := Keep.updL (ys := acc ++ [.ref tt]) (s70 _ _ eD)
    have hal := Paired.length hacc
    have hql := Paired.length hqs
    rw [List.length_take] at hql
    refine ⟨acc, s70 _ _ eD, sm _ (by omega), acc ++ [.ref tt], qs ++ [q0], Ov.Same.updn (s7.trans s70) hD, upd_same, (L2.Paired.mapP hacc fun _ _ z => z.keep ((Keep.same s70).trans kk)).snoc ⟨tt, rfl, kk _ _ et⟩, ?_⟩
    rw [List.take_add_one, hpi]
    exact hqs.snoc ⟨hq1, hq2⟩
  rintro H7 ⟨acc, qs, s7, eD, hacc, hqs⟩
  rw [htul, List.take_length] at hqs
  show gName 7 (V.ref D) [some (.ref h), some (.ref pa), some (.ref a), some (.ref l), some (.ref ln), some (.ref oh), y6, none, none, none, none, none, none, none] _ _
  have s47 := s6.trans s7
  have s67 := s7
  -- sorted
  have hlen := Paired.length hacc
  have hqpl := Paired.length hqs
  refine ⟨_, rfl, D, acc, keyT H7, rfl, SqL.of eD, fun x hx => ?_, fun ys p8 hys hyp hp8 => ?_⟩
  · obtain ⟨i, hi⟩ := List.mem_iff_getElem?.mp hx
    obtain ⟨q0, hq0, hpt⟩ := Paired.get2 hacc hi
    obtain ⟨x0, hx0, hsr⟩ := Paired.get2 hqs hq0
    rw [keyT_part hpt]
    obtain ⟨b, rfl, hb⟩ := hpt
    refine ⟨fun e => ?_, b, rfl, by rw [← nV_of]; exact hb⟩
    have z := congrArg List.length e
    have z2 := hsr.1.length_eq
    have z3 := List.length_pos_iff.mpr (htr.p.ne _ (List.mem_of_getElem? hx0))
    unfold intsN at z
    rw [List.length_map] at z z2
    rw [z2] at z
    have z : x0.length = 0 := z
    omega
  obtain ⟨os, hos, hyo⟩ := paired_perm' hyp hacc
  have hsrt : os.Pairwise fun x y => HT.lexLt (intsN y) (intsN x) = false := paired_pw (fun x x' y y' r r' z => by rw [keyT_part r, keyT_part r'] at z; exact z) hyo hys
  have s8 := Same.new (o := .lst ys) hp8
  have e8 : upd H7 p8 (.lst ys) p8 = some (.lst ys) := upd_same
  generalize upd H7 p8 (.lst ys) = H8 at s8 e8 ⊢
  have hyo8 : Paired (PartAt H8) ys os := L2.Paired.mapP hyo fun _ _ z => z.keep (Keep.same s8)
  have hacc8 : Paired (PartAt H8) acc qs := L2.Paired.mapP hacc fun _ _ z => z.keep (Keep.same s8)
  have eD8 := s8 _ _ eD
  have s48 := s47.trans s8
  have s7x := s67.trans s8
  obtain ⟨pl, hpl1, hpl2⟩ := ren_place hos
  clear hys hyp hyo hacc eD hp8 s8
  show gName 8 (V.ref p8) [some (.ref h), some (.ref pa), some (.ref a), some (.ref l), some (.ref ln), some (.ref oh), y6, some (.ref D), none, none, none, none, none, none] _ _
  -- what each stands on
  have hos2 := ren_pinv hperm htr.p hqs hos hsrt
  have hosl : os.length = ps.length := by rw [hos.length_eq]; exact hqpl
  have hstl := htr.len
  refine ⟨sml 1, fun l0 hl0 => ⟨_, rfl, D, _, rfl, .inl (SqL.of (Same.new hl0 _ _ eD8)), ?_⟩⟩
  rw [hlen, hqpl]
  refine ⟨l0, (ps.length : Int), _, rfl, rfl, upd_same, by omega, by omega, sml _ (by rw [List.length_singleton, Int.toNat_natCast]; omega), fun sl hsl => ?_⟩
  rw [Int.toNat_natCast, List.flatten_replicate_singleton]
  have s9 := (Same.new (o := .lst [V.int 0]) hl0).trans (Same.new (o := .lst (List.replicate ps.length (V.int 0))) hsl)
  have fsl : H8 sl = none := Same.free (Same.new (o := .lst [V.int 0]) hl0) hsl
  have esl : upd (upd H8 l0 (.lst [V.int 0])) sl (.lst (List.replicate ps.length (V.int 0))) sl = some (.lst ((List.replicate ps.length (0 : Int)).map V.int)) := by rw [upd_same, List.map_replicate]
  generalize upd (upd H8 l0 (.lst [V.int 0])) sl (.lst (List.replicate ps.length (V.int 0))) = H9 at s9 esl ⊢
  show tSeq _ _ _ [some (.ref h), some (.ref pa), some (.ref a), some (.ref l), some (.ref ln), some (.ref oh), y6, some (.ref D), some (.ref p8), some (.ref sl), none, none, none, none] _
  refine ⟨_, rfl, D, _, rfl, .inl (SqL.of (s9 _ _ eD8)), ?_⟩
  rw [hlen, hqpl]
  refine ⟨_, rfl, by omega, by omega, ?_⟩
  refine for_range (lo := 0) (n := ((ps.length : Nat) : Int).toNat) (fun i σ' H' => ∃ (y6 y10 y11 : Option V) (ss : List Int), σ' = [some (.ref h), some (.ref pa), some (.ref a), some (.ref l), some (.ref ln), some (.ref oh), y6, some (.ref D), some (.ref p8), some (.ref sl), y10, y11, none, none] ∧ Same H8 H' ∧ H' sl = some (.lst (ss.map V.int)) ∧ ss.length = ps.length ∧ ∀ k z, k < i → st[k]? = some z → ss[pl k]? = some (if 0 ≤ z then ((pl z.toNat : Nat) : Int) else -1))
    ⟨_, _, _, _, rfl, s9, esl, List.length_replicate, fun k z w => absurd w (Nat.not_lt_zero _)⟩ ?_ ?_
  · rintro i σ' H10 hi ⟨y6, y10, y11, ss, rfl, s10, e10, hsl2, hss⟩
    rw [Int.toNat_natCast] at hi
    rw [show (0 : Int) + (i : Int) = ((i : Nat) : Int) from Int.zero_add _]
    have s4x := s48.trans s10
    have hzi : st[i]? = some st[i] := List.getElem?_eq_getElem (by omega)
    have hai : acc[i]? = some acc[i] := List.getElem?_eq_getElem (by omega)
    obtain ⟨qi, hqi, hpi⟩ := Paired.get2 hacc8 hai
    have hpi := hpi.keep (Keep.same s10)
    have hoi := hpl1 i qi hqi
    have hyo10 : Paired (PartAt H10) ys os := L2.Paired.mapP hyo8 fun _ _ z => z.keep (Keep.same s10)
    refine ⟨_, rfl, a, _, 1, _, rfl, rfl, SqT.of (s4x _ _ hta), atI_nat (j := 1) rfl, _, rfl, sa, _, _, _, rfl, rfl, SqT.of (s4x _ _ hsa), atI_nat (by rw [List.getElem?_map, hzi]; rfl), ?_⟩
    show tSeq _ _ _ [some (.ref h), some (.ref pa), some (.ref a), some (.ref l), some (.ref ln), some (.ref oh), some (.int (i : Int)), some (.ref D), some (.ref p8), some (.ref sl), some (.int st[i]), y11, none, none] _
    refine ⟨_, rfl, .inl ⟨rfl, _, SqL.of (s10 _ _ e8)⟩, _, rfl, _, rfl, D, _, _, _, rfl, rfl, SqL.of (s10 _ _ eD8), atI_nat hai, ?_⟩
    dsimp only [tNil]
    show rIndexD K (.ref p8) [acc[i]] H10 _
    refine index_by (s10 _ _ e8) hyo10 hpi hoi hos2 ?_
    show tAsg _ _ _ [some (.ref h), some (.ref pa), some (.ref a), some (.ref l), some (.ref ln), some (.ref oh), some (.int (i : Int)), some (.ref D), some (.ref p8), some (.ref sl), some (.int st[i]), some (.int (pl i : Int)), none, none] _
    refine ⟨_, rfl, _, _, rfl, rfl, _, rfl, ?_⟩
    have fin : ∀ w : Int, w = (if 0 ≤ st[i] then ((pl st[i].toNat : Nat) : Int) else -1) → ∀ k z, k < i + 1 → st[k]? = some z → (ss.set (pl i) w)[pl k]? = some (if 0 ≤ z then ((pl z.toNat : Nat) : Int) else -1) := fun w hw k z hk hz => by
      have pli : pl i < ss.length := by
        have := (List.getElem?_eq_some_iff.mp hoi).1
        omega
      by_cases c : k = i
      · subst c
        rw [hzi] at hz
        cases hz
        rw [List.getElem?_set_self pli, hw]
      · rw [List.getElem?_set_ne fun e => c (place_inj hperm htr.p hqs hos hpl1 hpl2 _ _ e).symm]
        exact hss k z (by omega) hz
    have pli : pl i < (ss.map V.int).length := by
      have := (List.getElem?_eq_some_iff.mp hoi).1
      rw [List.length_map]
      omega
    by_cases c0 : (0 : Int) ≤ st[i]
    · rw [decide_eq_true c0]
      refine iteT ?_
      obtain ⟨r, hr⟩ : ∃ r : Nat, st[i] = (r : Int) := ⟨st[i].toNat, by omega⟩
      have hrl : r < ps.length := by
        obtain ⟨od, hod, hsi⟩ := htr.ord
        have hm : i ∈ od := hod.mem_iff.mpr (List.mem_range.mpr hi)
        obtain ⟨t0, ht0⟩ := List.mem_iff_getElem?.mp hm
        rcases hsi t0 i ht0 with e | ⟨j, y, _, hy, e⟩
        · rw [hzi] at e
          have := Option.some.inj e
          omega
        · rw [hzi] at e
          have := Option.some.inj e
          have hy2 := List.mem_range.mp (hod.mem_iff.mp (List.mem_of_getElem? hy))
          omega
      have har : acc[r]? = some acc[r] := List.getElem?_eq_getElem (by omega)
      obtain ⟨qr, hqr, hpr⟩ := Paired.get2 hacc8 har
      have hpr := hpr.keep (Keep.same s10)
      have hor := hpl1 r qr hqr
      rw [hr]
      refine ⟨_, rfl, .inl ⟨rfl, _, SqL.of (s10 _ _ e8)⟩, _, rfl, _, rfl, D, _, _, _, rfl, rfl, SqL.of (s10 _ _ eD8), atI_nat har, ?_⟩
      dsimp only [tNil]
      show rIndexD K (.ref p8) [acc[r]] H10 _
      refine index_by (s10 _ _ e8) hyo10 hpr hor hos2 ?_
      refine ⟨_, rfl, _, rfl, sl, _, _, pl i, rfl, rfl, e10, Evl.ixN_nat pli, ?_⟩
      exact ⟨_, _, _, _, rfl, Ov.Same.updn s10 fsl, by rw [upd_same, List.map_set], by rw [List.length_set]; exact hsl2, fin _ (by rw [if_pos c0, hr, Int.toNat_natCast])⟩
    · rw [decide_eq_false c0]
      refine iteF ?_
      refine ⟨1, rfl, _, rfl, _, rfl, sl, _, _, pl i, rfl, rfl, e10, Evl.ixN_nat pli, ?_⟩
      exact ⟨_, _, _, _, rfl, Ov.Same.updn s10 fsl, by rw [upd_same, List.map_set], by rw [List.length_set]; exact hsl2, fin _ (by rw [if_neg c0])⟩
  rintro σ10 H10 ⟨y6, y10, y11, ss, rfl, s10, e10, hsl2, hss⟩
  rw [Int.toNat_natCast] at hss
  have hss : ∀ k z, st[k]? = some z → ss[pl k]? = some (if 0 ≤ z then ((pl z.toNat : Nat) : Int) else -1) := fun k z hz => hss k z (by have := (List.getElem?_eq_some_iff.mp hz).1; omega) hz
  obtain ⟨pr', hf1, hf2, hf3, hf4⟩ := ren_prog hperm hok hul hus
  have s610 : Same H6 H10 := (s7x).trans s10
  refine ⟨_, rfl, _, rfl, oh, _, rfl, .inl ⟨SqL.of (s610 _ _ e6), fun t1 ht1 => ?_⟩⟩
  have c1 := Same.new (o := .tup us) ht1
  have et1 : upd H10 t1 (.tup us) t1 = some (.tup us) := upd_same
  generalize upd H10 t1 (.tup us) = G1 at c1 et1 ⊢
  refine ⟨_, rfl, p8, _, rfl, .inl ⟨SqL.of (c1 _ _ (s10 _ _ e8)), fun t2 ht2 => ?_⟩⟩
  have c2 := Same.new (o := .tup ys) ht2
  have et2 : upd G1 t2 (.tup ys) t2 = some (.tup ys) := upd_same
  generalize upd G1 t2 (.tup ys) = G2 at c2 et2 ⊢
  refine ⟨_, rfl, sl, _, rfl, .inl ⟨SqL.of (c2 _ _ (c1 _ _ e10)), fun t3 ht3 => ?_⟩⟩
  have c3 := Same.new (o := .tup (ss.map V.int)) ht3
  have et3 : upd G2 t3 (.tup (ss.map V.int)) t3 = some (.tup (ss.map V.int)) := upd_same
  generalize upd G2 t3 (.tup (ss.map V.int)) = G3 at c3 et3 ⊢
  refine ⟨sml 2, fun t4 ht4 => ?_⟩
  have c4 := Same.new (o := .tup [.ref t2, .ref t3]) ht4
  have et4 : upd G3 t4 (.tup [.ref t2, .ref t3]) t4 = some (.tup [.ref t2, .ref t3]) := upd_same
  generalize upd G3 t4 (.tup [.ref t2, .ref t3]) = G4 at c4 et4 ⊢
  refine ⟨sml 3, fun r hr => ?_⟩
  have c5 := Same.new (o := .tup [.ref ln, .ref t1, .ref t4]) hr
  have er : upd G4 r (.tup [.ref ln, .ref t1, .ref t4]) r = some (.tup [.ref ln, .ref t1, .ref t4]) := upd_same
  generalize upd G4 r (.tup [.ref ln, .ref t1, .ref t4]) = G5 at c5 er ⊢
  have c10 := c1.trans (c2.trans (c3.trans (c4.trans c5)))
  have s4e := s6.trans (s610.trans c10)
  have b1 : ∀ k, st[k]? = some (-1) → ss[pl k]? = some (-1) := fun k hk => by
    rw [hss k _ hk, if_neg (by decide)]
  have b2 : ∀ k (u : Nat), st[k]? = some (u : Int) → ss[pl k]? = some ((pl u : Nat) : Int) := fun k u hk => by
    rw [hss k _ hk, if_pos (by omega), Int.toNat_natCast]
  have htr2 : TrOk pr.length os ss := ren_tree hperm htr hqs hos hsrt hpl1 hpl2 hsl2 b1 b2
  have hfa : PrAt G5 (.ref t1) pr' := ⟨t1, us, rfl, c5 _ _ (c4 _ _ (c3 _ _ (c2 _ _ et1))), L2.Paired.mapP hf1 fun _ _ z => z.keep (Keep.same (s610.trans c10))⟩
  have hta2 : TrAt G5 (.ref t4) os ss := ⟨t4, t2, t3, ys, rfl, c5 _ _ et4, c5 _ _ (c4 _ _ (c3 _ _ et2)), L2.Paired.mapP hyo8 fun _ _ z => z.keep (Keep.same (s10.trans c10)), c5 _ _ (c4 _ _ et3)⟩
  refine q G5 r ln (.ref t1) (.ref t4) ns pr' os ss pl (b4.trans (But.same s4e)) (d4.same s4e) er (s4e _ _ eln4) hnl hn0 ⟨hfa, hf3, hta2, by rw [hf2]; exact htr2⟩ ?_
  refine ⟨hf4, hf2, fun f hf => nm_lt hperm hf, fun k hk => ?_, place_inj hperm htr.p hqs hos hpl1 hpl2, fun k x hx => ?_, b1, b2⟩
  · rw [hpl2 k (by omega)]
    omega
  · have hkl := (List.getElem?_eq_some_iff.mp hx).1
    have hqk : qs[k]? = some qs[k] := List.getElem?_eq_getElem (by omega)
    obtain ⟨x', hx', hsr⟩ := Paired.get2 hqs hqk
    rw [hx] at hx'
    cases hx'
    exact ⟨_, hpl1 k _ hqk, hsr.1⟩
end
end K07

namespace K07
open PySem PySem.Spec PyProof.Rows L2 Ov
section
variable {P : Program} {w : World} {K : PySem.W.Frag} {mg : Str → Option Value} {base : Heap}
theorem nats_of : ∀ os : List Int, (∀ j ∈ os, ∃ f : Nat, j = (f : Int)) → ∃ fs : List Nat, os = fs.map (fun (x : Nat) => (x : Int))
  | [], _ => ⟨[], rfl⟩
  | j :: r, h => by
    obtain ⟨f, e⟩ := h j List.mem_cons_self
    obtain ⟨fs, e2⟩ := nats_of r fun i hi => h i (List.mem_cons_of_mem _ hi)
    exact ⟨f :: fs, by rw [List.map_cons, ← e2, e]⟩
theorem sc_law : FnScope ["_law_script", "_law_h", "_law_turn", "_law_program_here", "_law_number_here", "_law_due", "_law_every", "_law_many", "_law_entered", "_law_one", "_law_chain", "_law_apart", "_law_tree_here", "_law_some", "_law_found", "_law_down", "_law_names", "_law_other_here", "_law_turned", "_law_mine", "_law_told", "_law_size", "_law_body_here", "_law_k"] ["_law_script"] (defScope s_law) := ⟨rfl, rfl, rfl, by decide +kernel, rfl, by decide +kernel, by decide +kernel⟩
-- 0 _law_script, 1 _law_h, 2 _law_turn, 3 _law_program_here, 4 _law_number_here, 5 _law_due, 6 _law_every, 7 _law_many, 8 _law_entered, 9 _law_one, 10 _law_chain, 11 _law_apart, 12 _law_tree_here, 13 _law_some, 14 _law_found, 15 _law_down, 16 _law_names, 17 _law_other_here, 18 _law_turned, 19 _law_mine, 20 _law_told, 21 _law_size, 22 _law_body_here, 23 _law_k
theorem ok_law (T : Txt w K mg) (hP : P = R.prog) : FnOk P w K mg base CX0 125 (He.ga K "law") (fdOf K d_law) ["_law_script"] (spLaw K) := by
  have G_law_mix := ok_law_mix (P := P) (base := base) T
  have G_law_next := ok_law_next (P := P) (base := base) T
  have G_law_program := ok_law_program (P := P) (base := base) T
  have G_law_tree := ok_law_tree (P := P) (base := base) T
  have G_law_number := ok_law_number (P := P) (base := base) T
  have G_law_other := ok_law_other (P := P) (base := base) T
  have G_run := ok_run (P := P) (base := base) T
  have G_traced := ok_traced (P := P) (base := base) T
  have G_run_in := ok_run_in (P := P) (base := base) T hP
  refine T.F_law.ok sc_law (fun vs H Q E h => ?_) (fun cdv A outer s H vs Q E hr h => ?_)
  · obtain ⟨a, ns, rfl, _⟩ := h
    rfl
  obtain ⟨a, ns, rfl, ha, hl, q⟩ := h
  refine ⟨_, PSs.nox (pss_cons (ps_set (i := 1) sc_law.nd rfl (by first | exact Or.inl rfl | exact Or.inr rfl) (pe_call G_law_mix (hr.mono (by omega)) (by rfl) T.g_law_mix T.kp_law_mix T.b_law_mix .nil pass0 (pa_cons (pv 0) (pa_cons pe_int pa_nil))))
      (pss_cons (ps_for PassesOwn.never rfl (pi_range1 (by rfl) T.z_range (pa_cons pe_int pa_nil)) (pg_name (i := 2) sc_law.nd rfl (by first | exact Or.inl rfl | exact Or.inr rfl)) (pss_cons (ps_set (i := 3) sc_law.nd rfl (by first | exact Or.inl rfl | exact Or.inr rfl) (pe_call G_law_program (hr.mono (by omega)) (by rfl) T.g_law_program T.kp_law_program T.b_law_program .nil pass0 (pa_cons (pv 1) (pa_cons pe_int pa_nil))))
      (pss_cons (ps_set (i := 4) sc_law.nd rfl (by first | exact Or.inl rfl | exact Or.inr rfl) (pe_call G_law_number (hr.mono (by omega)) (by rfl) T.g_law_number T.kp_law_number T.b_law_number .nil pass0 (pa_cons (pv 1) pa_nil)))
      (pss_cons (ps_set (i := 5) sc_law.nd rfl (by first | exact Or.inl rfl | exact Or.inr rfl) (pe_call G_run (hr.mono (by omega)) (by rfl) T.g_run T.kp_run T.b_run .nil pass0 (pa_cons (pv 3) (pa_cons (pv 4) pa_nil))))
      (pss_cons (ps_set (i := 6) sc_law.nd rfl (by first | exact Or.inl rfl | exact Or.inr rfl) (pe_callB (r := rSum K) (cr_sum rfl) (by rfl) T.z_sum (by decide +kernel) (pa_cons (pe_lc (own := [("_law_size", 21), ("_law_body_here", 22)]) rfl sc_law.nd (Ov.pi_tupK (K := K) rfl (pv 3)) (blkOk_by (own := [("_law_size", 21), ("_law_body_here", 22)]) (N := ["_law_script", "_law_h", "_law_turn", "_law_program_here", "_law_number_here", "_law_due", "_law_every", "_law_many", "_law_entered", "_law_one", "_law_chain", "_law_apart", "_law_tree_here", "_law_some", "_law_found", "_law_down", "_law_names", "_law_other_here", "_law_turned", "_law_mine", "_law_told", "_law_size", "_law_body_here", "_law_k"]) (sc := defScope s_law) (by decide +kernel)) (fun _ _ _ _ _ => (Ov.pg_tupK (K := K) (n := 2) rfl rfl (pgs_cons (pg_name (i := 21) sc_law.nd rfl (by first | exact Or.inl rfl | exact Or.inr rfl)) (pgs_cons (pg_name (i := 22) sc_law.nd rfl (by first | exact Or.inl rfl | exact Or.inr rfl)) pgs_nil)))) (fun _ _ _ _ _ => pts_nil) (fun _ _ _ _ _ => (pv 21))) pa_nil)))
      (pss_cons (ps_set (i := 7) sc_law.nd rfl (by first | exact Or.inl rfl | exact Or.inr rfl) (pe_callB (r := Evl.rLenS K) call_len_seq (by rfl) T.z_len PySem.boot_len (pa_cons (pv 3) pa_nil)))
      (pss_cons (ps_set (i := 8) sc_law.nd rfl (by first | exact Or.inl rfl | exact Or.inr rfl) (pe_callB (r := rSortedSet w) (cr_sortedSet rfl) (by rfl) T.z_sorted (by decide +kernel) (pa_cons (pe_callTy (r := Ov.rSetL K w) (Ov.cr_setL rfl) (by rfl) T.z_set (by decide +kernel) (pa_cons (pe_call G_traced (hr.mono (by omega)) (by rfl) T.g_traced T.kp_traced T.b_traced .nil pass0 (pa_cons (pv 3) (pa_cons (pv 4) pa_nil))) pa_nil)) pa_nil)))
      (pss_cons (ps_set (i := 9) sc_law.nd rfl (by first | exact Or.inl rfl | exact Or.inr rfl) (pe_tup (pa_cons (pe_tup (pa_cons (pe_tupRg rfl (by rfl) T.z_tuple (prg_1 (by rfl) T.z_range (pv 7))) pa_nil)) (pa_cons (pe_tup (pa_cons (pe_un un_neg pe_int) pa_nil)) pa_nil))))
      (pss_cons (ps_set (i := 10) sc_law.nd rfl (by first | exact Or.inl rfl | exact Or.inr rfl) (pe_tup (pa_cons (pe_callTy (r := Ov.rTupS K) call_tuple_of (by rfl) T.z_tuple (by decide +kernel) (pa_cons (pe_lc (own := [("_law_k", 23)]) rfl sc_law.nd (pi_range1 (by rfl) T.z_range (pa_cons (pv 7) pa_nil)) (blkOk_by (own := [("_law_k", 23)]) (N := ["_law_script", "_law_h", "_law_turn", "_law_program_here", "_law_number_here", "_law_due", "_law_every", "_law_many", "_law_entered", "_law_one", "_law_chain", "_law_apart", "_law_tree_here", "_law_some", "_law_found", "_law_down", "_law_names", "_law_other_here", "_law_turned", "_law_mine", "_law_told", "_law_size", "_law_body_here", "_law_k"]) (sc := defScope s_law) (by decide +kernel)) (fun _ _ _ _ _ => (pg_name (i := 23) sc_law.nd rfl (by first | exact Or.inl rfl | exact Or.inr rfl))) (fun _ _ _ _ _ => pts_nil) (fun _ _ _ _ _ => (pe_tup (pa_cons (pv 23) pa_nil)))) pa_nil)) (pa_cons (pe_callTy (r := Ov.rTupS K) call_tuple_of (by rfl) T.z_tuple (by decide +kernel) (pa_cons (pe_lc (own := [("_law_k", 23)]) rfl sc_law.nd (pi_range1 (by rfl) T.z_range (pa_cons (pv 7) pa_nil)) (blkOk_by (own := [("_law_k", 23)]) (N := ["_law_script", "_law_h", "_law_turn", "_law_program_here", "_law_number_here", "_law_due", "_law_every", "_law_many", "_law_entered", "_law_one", "_law_chain", "_law_apart", "_law_tree_here", "_law_some", "_law_found", "_law_down", "_law_names", "_law_other_here", "_law_turned", "_law_mine", "_law_told", "_law_size", "_law_body_here", "_law_k"]) (sc := defScope s_law) (by decide +kernel)) (fun _ _ _ _ _ => (pg_name (i := 23) sc_law.nd rfl (by first | exact Or.inl rfl | exact Or.inr rfl))) (fun _ _ _ _ _ => pts_nil) (fun _ _ _ _ _ => (pe_op op_sub (pv 23) pe_int))) pa_nil)) pa_nil))))
      (pss_cons (ps_set (i := 11) sc_law.nd rfl (by first | exact Or.inl rfl | exact Or.inr rfl) (pe_tup (pa_cons (pe_ix (r := rIxT K) ix_tup (pv 10) pe_int (fun _ _ => rfl)) (pa_cons (pe_op (r := Ov.rRepTA K) Ov.op_repTA (pe_tup (pa_cons (pe_un un_neg pe_int) pa_nil)) (pv 7)) pa_nil))))
      (pss_cons (ps_set (i := 12) sc_law.nd rfl (by first | exact Or.inl rfl | exact Or.inr rfl) (pe_call G_law_tree (hr.mono (by omega)) (by rfl) T.g_law_tree T.kp_law_tree T.b_law_tree .nil pass0 (pa_cons (pv 1) (pa_cons (pv 3) pa_nil))))
      (pss_cons (ps_for PassesOwn.never rfl (Ov.pi_listK (K := K) rfl (pe_lst (pa_cons (pv 9) (pa_cons (pv 10) (pa_cons (pv 11) (pa_cons (pv 12) pa_nil)))))) (pg_name (i := 13) sc_law.nd rfl (by first | exact Or.inl rfl | exact Or.inr rfl)) (pss_cons (ps_set (i := 14) sc_law.nd rfl (by first | exact Or.inl rfl | exact Or.inr rfl) (pe_call G_run_in (hr.mono (by omega)) (by rfl) T.g_run_in T.kp_run_in T.b_run_in .nil pass0 (pa_cons (pv 3) (pa_cons (pv 13) (pa_cons pe_int (pa_cons (pv 4) pa_nil))))))
      (pss_cons (ps_if (pt_cmpR (r := rNeD K) (op_neD hr.units) (pe_slice (r := rSlA K) sl_tupA (pv 14) po_none (po_some pe_int)) (pv 5) (nomark _)) (pss_one (ps_ret pe_bl)) pss_nil)
      (pss_cons (ps_if (PW.pt (pw_and (pt_cmpR (r := rEqD K) (op_eqD hr.units) (pv 13) (pv 9) (nomark _)) (pw_and1 (pt_cmpR op_ne (pe_ix (r := rIxT K) ix_tup (pv 14) pe_int (fun _ _ => rfl)) (pv 6) (nomark _))))) (pss_one (ps_ret pe_bl)) pss_nil)
      (pss_cons (ps_set (i := 15) sc_law.nd rfl (by first | exact Or.inl rfl | exact Or.inr rfl) (pe_callB (r := rSum K) (cr_sum rfl) (by rfl) T.z_sum (by decide +kernel) (pa_cons (pe_lc (own := [("_law_size", 21), ("_law_body_here", 22)]) rfl sc_law.nd (Ov.pi_tupK (K := K) rfl (pe_slice (r := rSlA K) sl_tupA (pv 3) po_none (po_some (pe_op op_add (pe_ix (r := rIxL K) ix_list (pv 8) (pe_un un_neg pe_int) (fun _ _ => rfl)) pe_int)))) (blkOk_by (own := [("_law_size", 21), ("_law_body_here", 22)]) (N := ["_law_script", "_law_h", "_law_turn", "_law_program_here", "_law_number_here", "_law_due", "_law_every", "_law_many", "_law_entered", "_law_one", "_law_chain", "_law_apart", "_law_tree_here", "_law_some", "_law_found", "_law_down", "_law_names", "_law_other_here", "_law_turned", "_law_mine", "_law_told", "_law_size", "_law_body_here", "_law_k"]) (sc := defScope s_law) (by decide +kernel)) (fun _ _ _ _ _ => (Ov.pg_tupK (K := K) (n := 2) rfl rfl (pgs_cons (pg_name (i := 21) sc_law.nd rfl (by first | exact Or.inl rfl | exact Or.inr rfl)) (pgs_cons (pg_name (i := 22) sc_law.nd rfl (by first | exact Or.inl rfl | exact Or.inr rfl)) pgs_nil)))) (fun _ _ _ _ _ => pts_nil) (fun _ _ _ _ _ => (pv 21))) pa_nil)))
      (pss_cons (ps_if (PW.pt (pw_and (pt_cmpR (r := rEqD K) (op_eqD hr.units) (pv 13) (pv 10) (nomark _)) (pw_and1 (pt_cmpR op_ne (pe_ix (r := rIxT K) ix_tup (pv 14) pe_int (fun _ _ => rfl)) (pv 15) (nomark _))))) (pss_one (ps_ret pe_bl)) pss_nil)
      (pss_one (ps_if (PW.pt (pw_and (pt_cmpR (r := rEqD K) (op_eqD hr.units) (pv 13) (pv 11) (nomark _)) (pw_and1 (pt_cmpR op_lt (pe_ix (r := rIxT K) ix_tup (pv 14) pe_int (fun _ _ => rfl)) (pe_callB (r := rSum K) (cr_sum rfl) (by rfl) T.z_sum (by decide +kernel) (pa_cons (pe_lc (own := [("_law_k", 23)]) rfl sc_law.nd (Ov.pi_listK (K := K) rfl (pe_slice (r := rSlL K) sl_list (pv 8) po_none (po_some pe_int))) (blkOk_by (own := [("_law_k", 23)]) (N := ["_law_script", "_law_h", "_law_turn", "_law_program_here", "_law_number_here", "_law_due", "_law_every", "_law_many", "_law_entered", "_law_one", "_law_chain", "_law_apart", "_law_tree_here", "_law_some", "_law_found", "_law_down", "_law_names", "_law_other_here", "_law_turned", "_law_mine", "_law_told", "_law_size", "_law_body_here", "_law_k"]) (sc := defScope s_law) (by decide +kernel)) (fun _ _ _ _ _ => (pg_name (i := 23) sc_law.nd rfl (by first | exact Or.inl rfl | exact Or.inr rfl))) (fun _ _ _ _ _ => pts_nil) (fun _ _ _ _ _ => (pe_ix (r := rIxT K) ix_tup (pe_ix (r := rIxT K) ix_tup (pv 3) (pv 23) (fun _ _ => rfl)) pe_int (fun _ _ => rfl)))) pa_nil)) (nomark _))))) (pss_one (ps_ret pe_bl)) pss_nil))))))))
      (pss_cons (ps_asg (pe_call G_law_other (hr.mono (by omega)) (by rfl) T.g_law_other T.kp_law_other T.b_law_other .nil pass0 (pa_cons (pv 1) (pa_cons (pv 3) (pa_cons (pv 12) pa_nil)))) (Ov.pg_tupK (K := K) (n := 3) rfl rfl (pgs_cons (pg_name (i := 16) sc_law.nd rfl (by first | exact Or.inl rfl | exact Or.inr rfl)) (pgs_cons (pg_name (i := 17) sc_law.nd rfl (by first | exact Or.inl rfl | exact Or.inr rfl)) (pgs_cons (pg_name (i := 18) sc_law.nd rfl (by first | exact Or.inl rfl | exact Or.inr rfl)) pgs_nil)))))
      (pss_cons (ps_par (i := 14) (j := 19) rfl sc_law.nd rfl rfl (by decide) rfl rfl (pa_cons (pe_call G_run_in (hr.mono (by omega)) (by rfl) T.g_run_in T.kp_run_in T.b_run_in .nil pass0 (pa_cons (pv 17) (pa_cons (pv 18) (pa_cons pe_int (pa_cons (pv 4) pa_nil))))) (pa_cons (pe_call G_run_in (hr.mono (by omega)) (by rfl) T.g_run_in T.kp_run_in T.b_run_in .nil pass0 (pa_cons (pv 3) (pa_cons (pv 12) (pa_cons pe_int (pa_cons (pv 4) pa_nil))))) pa_nil)) rfl)
      (pss_cons (ps_set (i := 20) sc_law.nd rfl (by first | exact Or.inl rfl | exact Or.inr rfl) (pe_ifExp (pt_cmpR op_ne (pe_ix (r := rIxT K) ix_tup (pe_ix (r := rIxT K) ix_tup (pv 19) pe_int (fun _ _ => rfl)) pe_int (fun _ _ => rfl)) pe_str (nomark _)) (pe_ix (r := rIxT K) ix_tup (pv 19) pe_int (fun _ _ => rfl)) (pe_tup (pa_cons pe_str (pa_cons (pe_ix (r := rIxL K) ix_list (pv 16) (pe_ix (r := rIxT K) ix_tup (pe_ix (r := rIxT K) ix_tup (pv 19) pe_int (fun _ _ => rfl)) pe_int (fun _ _ => rfl)) (fun _ _ => rfl)) pa_nil)))))
      (pss_one (ps_if (pt_cmpR (r := rNeD K) (op_neD hr.units) (pv 14) (pe_op (r := rCatA K) op_catA (pe_tup (pa_cons (pv 20) pa_nil)) (pe_slice (r := rSlA K) sl_tupA (pv 19) (po_some pe_int) po_none)) (nomark _)) (pss_one (ps_ret pe_bl)) pss_nil)))))))))))))))))
      (pss_one (ps_ret pe_bl)))), ?_⟩
  refine ⟨_, rfl, a, ns, 19, rfl, ha, hl, by decide, by decide, fun h c H1 hh hc s1 d1 => ?_⟩
  refine ⟨4, rfl, by decide, by decide, ?_⟩
  refine for_range (lo := 0) (n := (4 : Int).toNat) (fun i σ' H' => ∃ ys : List (Option V), ys.length = 22 ∧ σ' = some (.ref a) :: some (.ref h) :: ys ∧ Dr H' h c) ⟨_, rfl, rfl, d1⟩ ?_ ?_
  · rintro i0 σ' H1 hi ⟨ys, hys, rfl, d1⟩
    obtain ⟨y2, y3, y4, y5, y6, y7, y8, y9, y10, y11, y12, y13, y14, y15, y16, y17, y18, y19, y20, y21, y22, y23, rfl⟩ : ∃ y2 y3 y4 y5 y6 y7 y8 y9 y10 y11 y12 y13 y14 y15 y16 y17 y18 y19 y20 y21 y22 y23, ys = [y2, y3, y4, y5, y6, y7, y8, y9, y10, y11, y12, y13, y14, y15, y16, y17, y18, y19, y20, y21, y22, y23] := by
      match ys, hys with
      | [a2, a3, a4, a5, a6, a7, a8, a9, a10, a11, a12, a13, a14, a15, a16, a17, a18, a19, a20, a21, a22, a23], _ => exact ⟨_, _, _, _, _, _, _, _, _, _, _, _, _, _, _, _, _, _, _, _, _, _, rfl⟩
    refine ⟨_, rfl, h, c, 8, rfl, d1, by decide, by decide, fun v H2 pr b2 d2 hpr hok => ?_⟩
    have n8 := hok.l8
    have n1 := hok.l1
    refine ⟨_, rfl, h, c, rfl, d2, fun z H3 hz0 hz1 b3 d3 => ?_⟩
    have hpr3 := hpr.keep (Keep.but b3 d2)
    clear hpr b2 b3 d1 d2
    obtain ⟨pa, vp, rfl, hpa, hpf⟩ := id hpr3
    have hpl : vp.length = pr.length := Paired.length hpf
    show tSeq _ _ _ [some (.ref a), some (.ref h), some (.int (0 + (i0 : Int))), some (.ref pa), some (.int z), y5, y6, y7, y8, y9, y10, y11, y12, y13, y14, y15, y16, y17, y18, y19, y20, y21, y22, y23] _
    refine ⟨_, rfl, _, rfl, .ref pa, pr, z, rfl, hpr3, hok, hz0, hz1, fun H4 r4 t4 sa4 s4 nsa er4 et4 es4 => ?_⟩
    have d4 := d3.same s4
    have nes := Dr.new d3 nsa
    have hpa4 := s4 _ _ hpa
    show tSeq _ _ _ [some (.ref a), some (.ref h), some (.int (0 + (i0 : Int))), some (.ref pa), some (.int z), some (.ref r4), y6, y7, y8, y9, y10, y11, y12, y13, y14, y15, y16, y17, y18, y19, y20, y21, y22, y23] _
    -- all cells
    refine ⟨_, rfl, pa, rfl, ⟨_, SqT.of hpa4⟩, fun D hD => ?_⟩
    refine lc_itY (walk_tup (K := K) (a := pa) (xs := vp)) (fun i H' => Same H4 H' ∧ H' D = some (.lst (((pr.take i).map (·.1)).map V.int))) ⟨Same.new hD, upd_same⟩ (fun i H' _ z => SqT.of (z.1 _ _ hpa4)) ?_ ?_
    · rintro i x H5 H5' hi ⟨s5, e5⟩ ⟨rfl, hx⟩
      obtain ⟨f, hfi, b, bv, rfl, hb, _⟩ := Paired.get2 hpf hx
      have hbb := s5 _ _ (s4 _ _ hb)
      refine ⟨b, _, rfl, SqT.of hbb, rfl, _, _, rfl, _, _, rfl, rfl, rfl, _, rfl, _, e5, sm _ (by rw [List.length_map, List.length_map, List.length_take]; omega), Ov.Same.updn s5 hD, ?_⟩
      rw [upd_same, List.take_add_one, hfi, List.map_append, List.map_append]
      rfl
    rintro H5 ⟨s5, e5⟩
    rw [hpl, List.take_length] at e5
    refine ⟨D, _, rfl, SqL.of e5, ?_⟩
    have s5 := s5
    have hpr5 := hpr3.keep (Keep.same (s4.trans s5))
    have d5 := d4.same s5
    have hpa5 := s5 _ _ hpa4
    have er5 := s5 _ _ er4
    have et5 := s5 _ _ et4
    have es5 := s5 _ _ es4
    clear e5 s5 hD
    show gName 6 (V.int _) [some (.ref a), some (.ref h), some (.int (0 + (i0 : Int))), some (.ref pa), some (.int z), some (.ref r4), y6, y7, y8, y9, y10, y11, y12, y13, y14, y15, y16, y17, y18, y19, y20, y21, y22, y23] _ _
    refine ⟨_, rfl, pa, _, rfl, .inr (SqT.of hpa5), ?_⟩
    rw [hpl]
    refine ⟨_, rfl, _, rfl, .ref pa, pr, z, rfl, hpr5, hok, hz0, hz1, fun H6 ro s6 nro ero => ?_⟩
    obtain ⟨hn0, hlt, hlen⟩ := evR_row hok hz0 hz1
    refine ⟨ro, (evR pr z).st.row.map (fun (x : Nat) => (x : Int)), rfl, SqL.of (by rw [← nV_ints]; exact ero), by rw [List.length_map]; omega, fun p1 us hp1 und umem => ?_⟩
    have inrow : ∀ j : Int, j ∈ (evR pr z).st.row.map (fun (x : Nat) => (x : Int)) → ∃ f : Nat, j = (f : Int) ∧ f ∈ (evR pr z).st.row := fun j hj => by
      obtain ⟨f, hf, e⟩ := List.mem_map.mp hj
      exact ⟨f, e.symm, hf⟩
    have few : us.length ≤ 8 := by
      have z := pig 8 (us.map Int.toNat) (List.pairwise_map.mpr (List.Pairwise.imp_of_mem (fun {x y} hx hy ne e => by
        obtain ⟨f, rfl, _⟩ := inrow x ((umem x).mp hx)
        obtain ⟨g, rfl, _⟩ := inrow y ((umem y).mp hy)
        exact ne (by rw [show f = g from e])) und)) (fun x hx => by
        obtain ⟨j, hj, rfl⟩ := List.mem_map.mp hx
        obtain ⟨f, rfl, hf⟩ := inrow j ((umem j).mp hj)
        have := hlt f hf
        show f < 8
        omega)
      rw [List.length_map] at z
      exact z
    have sp := Same.new (o := SetO w p1 (fun j => decide (j ∈ (evR pr z).st.row.map (fun (x : Nat) => (x : Int)))) us.length) hp1
    refine ⟨p1, _, _, rfl, upd_same, by omega, fun os p2 opw omem olen hp2 => ?_⟩
    have n2 := Dr.new (d5.same (s6.trans sp)) hp2
    have s15 := sp.trans (Same.new (o := .lst (os.map V.int)) hp2)
    have e2 : upd (upd H6 p1 (SetO w p1 (fun j => decide (j ∈ (evR pr z).st.row.map (fun (x : Nat) => (x : Int)))) us.length)) p2 (.lst (os.map V.int)) p2 = some (.lst (os.map V.int)) := upd_same
    generalize upd (upd H6 p1 (SetO w p1 (fun j => decide (j ∈ (evR pr z).st.row.map (fun (x : Nat) => (x : Int)))) us.length)) p2 (.lst (os.map V.int)) = H7 at s15 e2 ⊢
    have osr : ∀ j ∈ os, ∃ f : Nat, j = (f : Int) ∧ f ∈ (evR pr z).st.row := fun j hj => inrow j (of_decide_eq_true ((omem j).mp hj))
    obtain ⟨fs, rfl⟩ := nats_of os fun j hj => by
      obtain ⟨f, e, _⟩ := osr j hj
      exact ⟨f, e⟩
    have fsr : ∀ f, f ∈ fs ↔ f ∈ (evR pr z).st.row := fun f => by
      constructor
      · intro hf
        obtain ⟨g, e, hg⟩ := osr (f : Int) (List.mem_map.mpr ⟨f, hf, rfl⟩)
        rw [show f = g by omega]
        exact hg
      · intro hf
        obtain ⟨g, hg, e⟩ := List.mem_map.mp ((omem (f : Int)).mpr (decide_eq_true (List.mem_map.mpr ⟨f, hf, rfl⟩)))
        rw [show f = g by omega]
        exact hg
    obtain ⟨fi, M, hfs⟩ : ∃ fi M, fs = fi ++ [M] := by
      rcases List.eq_nil_or_concat fs with e | ⟨fi, M, e⟩
      · obtain ⟨y, hy⟩ := List.exists_mem_of_ne_nil _ hn0
        have := (fsr y).mpr hy
        rw [e] at this
        cases this
      · exact ⟨fi, M, by rw [e, List.concat_eq_append]⟩
    have fsp : fs.Pairwise (· < ·) := (List.pairwise_map.mp opw).imp fun h => by omega
    have hMr : M ∈ (evR pr z).st.row := (fsr M).mp (by rw [hfs]; exact List.mem_append_right _ (List.mem_singleton.mpr rfl))
    have hMx : ∀ f ∈ (evR pr z).st.row, f ≤ M := fun f hf => by
      have z1 := (fsr f).mpr hf
      rw [hfs] at z1 fsp
      rcases List.mem_append.mp z1 with y | y
      · exact Nat.le_of_lt ((List.pairwise_append.mp fsp).2.2 f y M (List.mem_singleton.mpr rfl))
      · exact Nat.le_of_eq (List.mem_singleton.mp y)
    have hMl := hlt M hMr
    have fsl : fs.length ≤ 8 := by
      rw [List.length_map] at olen
      omega
    rw [← nV_ints] at e2
    have s57 := s6.trans s15
    have hpr7 := hpr5.keep (Keep.same s57)
    have d7 := d5.same s57
    have hpa7 := s57 _ _ hpa5
    have er7 := s57 _ _ er5
    have et7 := s57 _ _ et5
    have es7 := s57 _ _ es5
    clear s57 s15 sp s6 osr omem opw olen inrow few umem und ero hp1 hp2 d5 hpr5 er5 et5 es5 hpa5
    show gName 8 (V.ref p2) [some (.ref a), some (.ref h), some (.int (0 + (i0 : Int))), some (.ref pa), some (.int z), some (.ref r4), some (.int _), some (.int (pr.length : Int)), y8, y9, y10, y11, y12, y13, y14, y15, y16, y17, y18, y19, y20, y21, y22, y23] _ _
    refine ⟨_, rfl, _, rfl, RgOk.of_le (by omega) (by omega) (by omega) (by omega), fun q1 hq1 => ?_⟩
    rw [rgV_nV]
    refine ⟨sml 1, fun q2 hq2 => ⟨_, rfl, sml 1, fun q3 hq3 => ⟨sml 2, fun q4 hq4 => ?_⟩⟩⟩
    have a1 := Same.new (o := .tup (nV (List.range pr.length))) hq1
    have a2 := Same.new (o := .tup [V.ref q1]) hq2
    have a3 := Same.new (o := .tup [V.int (-1)]) hq3
    have a4 := Same.new (o := .tup [V.ref q2, V.ref q3]) hq4
    have t1 := TrAt.of (ps := onePs pr.length) (st := [-1]) (x := .ref q2) (y := .ref q3) upd_same ⟨q2, [.ref q1], rfl, a4 _ _ (a3 _ _ upd_same), .cons ⟨q1, rfl, a4 _ _ (a3 _ _ (a2 _ _ upd_same))⟩ .nil⟩ ⟨q3, rfl, a4 _ _ upd_same⟩
    have s8 := a1.trans (a2.trans (a3.trans a4))
    generalize upd (upd (upd (upd H7 q1 (.tup (nV (List.range pr.length)))) q2 (.tup [V.ref q1])) q3 (.tup [V.int (-1)])) q4 (.tup [V.ref q2, V.ref q3]) = H8 at t1 s8 ⊢
    clear a1 a2 a3 a4 hq1 hq2 hq3 hq4
    show gName 9 (V.ref q4) [some (.ref a), some (.ref h), some (.int (0 + (i0 : Int))), some (.ref pa), some (.int z), some (.ref r4), some (.int _), some (.int (pr.length : Int)), some (.ref p2), y9, y10, y11, y12, y13, y14, y15, y16, y17, y18, y19, y20, y21, y22, y23] _ _
    -- the chain
    refine ⟨_, rfl, _, rfl, by omega, by omega, fun D hD => ?_⟩
    refine lc_rangeY (lo := 0) (n := ((pr.length : Nat) : Int).toNat) (fun i H' => ∃ ws, Same H8 H' ∧ H' D = some (.lst ws) ∧ Paired (PartAt H') ws ((List.range i).map fun k => [k])) ⟨[], Same.new hD, upd_same, .nil⟩ ?_ ?_
    · rintro i H' hi ⟨ws, s1, e1, hws⟩
      rw [Int.toNat_natCast] at hi
      have hwl := Paired.length hws
      rw [List.length_map, List.length_range] at hwl
      refine ⟨rfl, _, rfl, sml 1, fun p hp => ?_⟩
      have s2 := Same.new (o := .tup [V.int (0 + (i : Int))]) hp
      have e2 := s2 _ _ e1
      have kD := Keep.updL (ys := ws ++ [.ref p]) e2
      refine ⟨_, e2, sm _ (by omega), ws ++ [.ref p], Ov.Same.updn (s1.trans s2) hD, upd_same, ?_⟩
      rw [List.range_succ, List.map_append]
      exact PySem.Paired.snoc (L2.Paired.mapP hws fun _ _ z => (z.keep (Keep.same s2)).keep kD) ⟨p, rfl, kD _ _ (by rw [upd_same, Int.zero_add]; rfl)⟩
    rintro H9 ⟨ws, s9, e9, hws⟩
    rw [Int.toNat_natCast] at hws
    have hws : Paired (PartAt H9) ws (chPs pr.length) := hws
    refine ⟨D, _, rfl, .inl ⟨SqL.of e9, fun q5 hq5 => ?_⟩⟩
    have a5 := Same.new (o := .tup ws) hq5
    have h5 : PtsAt (upd H9 q5 (.tup ws)) (.ref q5) (chPs pr.length) := ⟨q5, ws, rfl, upd_same, L2.Paired.mapP hws fun _ _ z => z.keep (Keep.same a5)⟩
    have s10 := s9.trans a5
    generalize upd H9 q5 (.tup ws) = H10 at h5 s10 ⊢
    clear a5 hq5 hws e9 s9 hD
    refine ⟨_, rfl, _, rfl, by omega, by omega, fun D hD => ?_⟩
    refine lc_rangeY (lo := 0) (n := ((pr.length : Nat) : Int).toNat) (fun i H' => Same H10 H' ∧ H' D = some (.lst ((chSt i).map V.int))) ⟨Same.new hD, upd_same⟩ ?_ ?_
    · rintro i H' hi ⟨s1, e1⟩
      rw [Int.toNat_natCast] at hi
      refine ⟨rfl, _, rfl, _, _, rfl, rfl, _, e1, sm _ (by unfold chSt; rw [List.length_map, List.length_map, List.length_range]; omega), Ov.Same.updn s1 hD, ?_⟩
      unfold chSt
      rw [upd_same, List.range_succ, List.map_append, List.map_append, Int.zero_add]
      rfl
    rintro H11 ⟨s11, e11⟩
    rw [Int.toNat_natCast] at e11
    refine ⟨D, _, rfl, .inl ⟨SqL.of e11, fun q6 hq6 => ⟨sml 2, fun q7 hq7 => ?_⟩⟩⟩
    have a6 := Same.new (o := .tup ((chSt pr.length).map V.int)) hq6
    have a7 := Same.new (o := .tup [V.ref q5, V.ref q6]) hq7
    have h5 := h5.keep (Keep.same (s11.trans (a6.trans a7)))
    have t2 := TrAt.of (ps := chPs pr.length) (st := chSt pr.length) upd_same h5 ⟨q6, rfl, a7 _ _ upd_same⟩
    have e7 : upd (upd H11 q6 (.tup ((chSt pr.length).map V.int))) q7 (.tup [V.ref q5, V.ref q6]) q7 = some (.tup [V.ref q5, V.ref q6]) := upd_same
    have s12 := s10.trans (s11.trans (a6.trans a7))
    generalize upd (upd H11 q6 (.tup ((chSt pr.length).map V.int))) q7 (.tup [V.ref q5, V.ref q6]) = H12 at h5 t2 e7 s12 ⊢
    have t1 := TrAt.keep (Keep.same s12) t1
    have s712 := s8.trans s12
    clear a6 a7 hq6 hq7 hD s11 e11 s10 s12 s8
    show gName 10 (V.ref q7) [some (.ref a), some (.ref h), some (.int (0 + (i0 : Int))), some (.ref pa), some (.int z), some (.ref r4), some (.int _), some (.int (pr.length : Int)), some (.ref p2), some (.ref q4), y10, y11, y12, y13, y14, y15, y16, y17, y18, y19, y20, y21, y22, y23] _ _
    -- all apart
    refine ⟨_, rfl, q7, _, 0, _, rfl, rfl, SqT.of e7, atI_nat (j := 0) rfl, _, rfl, sml 1, fun m1 hm1 => ?_⟩
    have em1 : upd H12 m1 (.tup [V.int (-1)]) m1 = some (.tup [V.int (-1)]) := upd_same
    have a8 := Same.new (o := .tup [V.int (-1)]) hm1
    refine ⟨_, rfl, repTA_by (n := pr.length) (SqT.of em1) (by omega) (by omega) (fun H13 q8 s13 e13 => ?_) em1⟩
    refine ⟨sml 2, fun q9 hq9 => ?_⟩
    have a9 := Same.new (o := .tup [V.ref q5, V.ref q8]) hq9
    have s14 := a8.trans (s13.trans a9)
    have t3 := TrAt.of (ps := chPs pr.length) (st := List.replicate pr.length (-1)) upd_same (h5.keep (Keep.same s14)) ⟨q8, rfl, a9 _ _ e13⟩
    generalize upd H13 q9 (.tup [V.ref q5, V.ref q8]) = H14 at t3 s14 ⊢
    have t1 := TrAt.keep (Keep.same s14) t1
    have t2 := TrAt.keep (Keep.same s14) t2
    have s714 := s712.trans s14
    have hpr14 := hpr7.keep (Keep.same s714)
    have d14 := d7.same s714
    have e2 := s714 _ _ e2
    have hpa14 := s714 _ _ hpa7
    have er14 := s714 _ _ er7
    have et14 := s714 _ _ et7
    have es14 := s714 _ _ es7
    clear a8 a9 hq9 hm1 em1 s13 e13 s14 h5 e7 s712 hpr7 d7 hpa7 er7 et7 es7 s714
    show gName 11 (V.ref q9) [some (.ref a), some (.ref h), some (.int (0 + (i0 : Int))), some (.ref pa), some (.int z), some (.ref r4), some (.int _), some (.int (pr.length : Int)), some (.ref p2), some (.ref q4), some (.ref q7), y11, y12, y13, y14, y15, y16, y17, y18, y19, y20, y21, y22, y23] _ _
    -- the drawn tree
    refine ⟨_, rfl, _, rfl, h, c, pa, pr.length, vp, rfl, d14, hpa14, hpl, hok.l1, hok.l8, fun t H15 ps st b15 d15 htr hto => ?_⟩
    have k15 := Keep.but b15 d14
    have hpr15 := hpr14.keep k15
    have t1 := TrAt.keep k15 t1
    have t2 := TrAt.keep k15 t2
    have t3 := TrAt.keep k15 t3
    have e2 := b15 _ _ n2.1 n2.2 e2
    have es15 := b15 _ _ nes.1 nes.2 es14
    have er15 := k15 _ _ er14
    have et15 := k15 _ _ et14
    have hpa15 := k15 _ _ hpa14
    clear k15 b15 hpr14 d14 er14 es14 et14 hpa14
    show gName 12 t [some (.ref a), some (.ref h), some (.int (0 + (i0 : Int))), some (.ref pa), some (.int z), some (.ref r4), some (.int _), some (.int (pr.length : Int)), some (.ref p2), some (.ref q4), some (.ref q7), some (.ref q9), y12, y13, y14, y15, y16, y17, y18, y19, y20, y21, y22, y23] _ _
    refine ⟨_, rfl, _, rfl, _, rfl, _, rfl, sml 4, fun l hl => ?_⟩
    have al := Same.new (o := .lst [V.ref q4, .ref q7, .ref q9, t]) hl
    have el : upd H15 l (.lst [V.ref q4, .ref q7, .ref q9, t]) l = some (.lst [V.ref q4, .ref q7, .ref q9, t]) := upd_same
    generalize upd H15 l (.lst [V.ref q4, .ref q7, .ref q9, t]) = H16 at al el ⊢
    have hpr16 := hpr15.keep (Keep.same al)
    have t1 := TrAt.keep (Keep.same al) t1
    have t2 := TrAt.keep (Keep.same al) t2
    have t3 := TrAt.keep (Keep.same al) t3
    have t4 := htr.keep (Keep.same al)
    have d16 := d15.same al
    have e2 := al _ _ e2
    have es16 := al _ _ es15
    have er16 := al _ _ er15
    have et16 := al _ _ et15
    have hpa16 := al _ _ hpa15
    clear al hpr15 htr d15 es15 er15 et15 hpa15 hl
    have all : ∀ x ∈ [V.ref q4, .ref q7, .ref q9, t], ∃ ps st, TrAt H16 x ps st ∧ TrOk pr.length ps st := fun x hx => by
      simp only [List.mem_cons, List.not_mem_nil, or_false] at hx
      rcases hx with rfl | rfl | rfl | rfl
      · exact ⟨_, _, t1, one_ok (by omega)⟩
      · exact ⟨_, _, t2, ch_ok _⟩
      · exact ⟨_, _, t3, ap_ok _⟩
      · exact ⟨_, _, t4, hto⟩
    refine ⟨l, rfl, ⟨_, SqL.of el⟩, ?_⟩
    refine for_it (walk_list (K := K) (a := l) (xs := [V.ref q4, .ref q7, .ref q9, t])) (fun i σ' H' => ∃ (y13 y14 y15 y16 y17 y18 y19 y20 y21 y22 y23 : Option V), σ' = [some (.ref a), some (.ref h), some (.int (0 + (i0 : Int))), some (.ref pa), some (.int z), some (.ref r4), some (.int (pr.map (·.1)).sum), some (.int (pr.length : Int)), some (.ref p2), some (.ref q4), some (.ref q7), some (.ref q9), some t, y13, y14, y15, y16, y17, y18, y19, y20, y21, y22, y23] ∧ Same H16 H') ⟨y13, y14, y15, y16, y17, y18, y19, y20, y21, y22, y23, rfl, Same.refl _⟩ (fun i σ' H' _ ⟨_, _, _, _, _, _, _, _, _, _, _, _, s⟩ => SqL.of (s _ _ el)) ?_ ?_
    · rintro i x σ' H17 H17' hi ⟨y13, y14, y15, y16, y17, y18, y19, y20, y21, y22, y23, rfl, s17⟩ ⟨rfl, hx⟩
      obtain ⟨qs, ss, htx, hox⟩ := all x (List.mem_of_getElem? hx)
      obtain ⟨dn, hdn⟩ := hox.dn
      obtain ⟨far, hfar⟩ : ∃ m, Far pr qs dn m := far_ex hok hox
      obtain ⟨hm1, hm64⟩ := far_le hok hox hdn hfar
      have f64 : far.toNat ≤ 64 := by omega
      have tx17 := TrAt.keep (Keep.same s17) htx
      have hpr17 := hpr16.keep (Keep.same s17)
      refine ⟨_, rfl, _, rfl, _, rfl, .ref pa, x, pr, qs, ss, dn, far, 64, z, rfl, ⟨hpr17, hok, tx17, hox⟩, hdn, hfar, by omega, by decide, hz0, hz1, fun H18 rr tt sa cs s18 _ err ett esa hcs hlk => ?_⟩
      have s1 := s17.trans s18
      have fl := endD_flatE (evR pr z)
      have ly := endD_lay (evR pr z)
      refine ⟨_, rfl, 2, rfl, sl_to (k := 2) rfl err (by show 2 ≤ 3; decide) fun H19 p9 s19 e9 => ⟨_, rfl, ?_⟩⟩
      have s2 := s1.trans s19
      refine ne2_by e9 ⟨s19 _ _ ett, s19 _ _ esa⟩ (s2 _ _ er16) ⟨s2 _ _ et16, s2 _ _ es16⟩ fl ly ?_
      refine ⟨_, rfl, iteF ?_⟩
      have err9 := s19 _ _ err
      clear ett esa e9 err s18 s19
      have t1x := TrAt.keep (Keep.same s2) t1
      have t2x := TrAt.keep (Keep.same s2) t2
      have t3x := TrAt.keep (Keep.same s2) t3
      have txx := TrAt.keep (Keep.same s2) htx
      have e2x := s2 _ _ e2
      have hpax := s2 _ _ hpa16
      have eIn : ∀ n : Nat, n = inR pr qs dn cs 64 z → ((n : Nat) : Int) = ((costT (waysF pr.length qs dn) (laysF pr cs qs) 64 (evR pr z).st.row : Nat) : Int) := fun n e => by rw [e]; rfl
      generalize hin : inR pr qs dn cs 64 z = nin at err9
      have eIn := eIn nin hin.symm
      -- in one part
      refine ⟨_, rfl, _, rfl, treeD qs ss, treeD (onePs pr.length) [-1], txx.dp, t1x.dp, tree_sh _ _, tree_sh _ _, ?_⟩
      rw [eqv_tree]
      refine ⟨_, rfl, ite_no (fun hb q => ?_) (iteF ?_)⟩
      · obtain ⟨rfl, rfl⟩ := of_decide_eq_true hb
        refine ⟨_, rfl, rr, _, 2, _, rfl, rfl, SqT.of err9, atI_nat (j := 2) rfl, _, rfl, rfl, _, rfl, ?_⟩
        rw [neI_no (by rw [eIn, one_cost hok hdn hcs hlk f64 hlt hn0, psz_whole])]
        exact q
      -- the sizes up to the highest entered
      refine ⟨_, rfl, _, rfl, 1, rfl, p2, _, -1, .int (M : Int), rfl, rfl, SqL.of e2x, by rw [hfs]; exact Ov.atI_last fi M, _, _, rfl, rfl, ((M + 1 : Nat) : Int), by rw [Int.natCast_add]; rfl, sl_to (k := M + 1) rfl hpax (by omega) fun H20 p10 s20 e10 => ?_⟩
      have hpf20 : Paired (FAt H20) (vp.take (M + 1)) (pr.take (M + 1)) := by
        obtain ⟨qa, vq, eq1, hqa, hqf⟩ := hpr16.keep (Keep.same (s2.trans s20))
        cases eq1
        cases ((s2.trans s20) _ _ hpa16).symm.trans hqa
        exact paired_take hqf _
      obtain ⟨prm, hprm⟩ : ∃ l, l = pr.take (M + 1) := ⟨_, rfl⟩
      rw [← hprm] at hpf20
      have hpml := Paired.length hpf20
      refine ⟨p10, rfl, ⟨_, SqT.of e10⟩, fun D hD => ?_⟩
      refine lc_itY (walk_tup (K := K) (a := p10) (xs := vp.take (M + 1))) (fun i H' => Same H20 H' ∧ H' D = some (.lst ((((prm.take i).map (·.1)).map V.int)))) ⟨Same.new hD, upd_same⟩ (fun i H' _ z => SqT.of (z.1 _ _ e10)) ?_ ?_
      · rintro i x1 H5 H5' hi ⟨s5, e5⟩ ⟨rfl, hx⟩
        obtain ⟨f, hfi, b, bv, rfl, hb, _⟩ := Paired.get2 hpf20 hx
        have hbb := s5 _ _ hb
        refine ⟨b, _, rfl, SqT.of hbb, rfl, _, _, rfl, _, _, rfl, rfl, rfl, _, rfl, _, e5, sm _ (by rw [List.length_map, List.length_map, List.length_take, ← hpml, List.length_take]; omega), Ov.Same.updn s5 hD, ?_⟩
        rw [upd_same, List.take_add_one, hfi, List.map_append, List.map_append]
        rfl
      rintro H21 ⟨s21, e21⟩
      rw [hpml, List.take_length] at e21
      refine ⟨D, _, rfl, SqL.of e21, ?_⟩
      have s3 := s20.trans s21
      have s16 := s2.trans s3
      have t2x := TrAt.keep (Keep.same s3) t2x
      have t3x := TrAt.keep (Keep.same s3) t3x
      have txx := TrAt.keep (Keep.same s3) txx
      have e2y := s3 _ _ e2x
      have err9 := s3 _ _ err9
      clear e21 s20 s21 hD e10 hpf20 hpml
      show gName 15 (V.int _) [some (.ref a), some (.ref h), some (.int (0 + (i0 : Int))), some (.ref pa), some (.int z), some (.ref r4), some (.int (pr.map (·.1)).sum), some (.int (pr.length : Int)), some (.ref p2), some (.ref q4), some (.ref q7), some (.ref q9), some t, some x, some (.ref rr), y15, y16, y17, y18, y19, y20, y21, y22, y23] _ _
      -- a chain
      refine ⟨_, rfl, _, rfl, treeD qs ss, treeD (chPs pr.length) (chSt pr.length), txx.dp, t2x.dp, tree_sh _ _, tree_sh _ _, ?_⟩
      rw [eqv_tree]
      refine ⟨_, rfl, ite_no (fun hb q => ?_) (iteF ?_)⟩
      · obtain ⟨rfl, rfl⟩ := of_decide_eq_true hb
        refine ⟨_, rfl, rr, _, 2, _, rfl, rfl, SqT.of err9, atI_nat (j := 2) rfl, _, rfl, rfl, _, rfl, ?_⟩
        rw [neI_no (by rw [eIn, ch_cost hok hdn hcs hlk f64 hlt hMr hMx, hprm]; exact psz_range pr (M + 1) (by omega))]
        exact q
      -- all apart
      refine ⟨_, rfl, _, rfl, treeD qs ss, treeD (chPs pr.length) (List.replicate pr.length (-1)), txx.dp, t3x.dp, tree_sh _ _, tree_sh _ _, ?_⟩
      refine ⟨_, rfl, ?_⟩
      cases hb : PyData.eqv (treeD qs ss) (treeD (chPs pr.length) (List.replicate pr.length (-1))) with
      | false =>
        refine iteF (iteF ?_)
        exact ⟨_, _, _, _, _, _, _, _, _, _, _, rfl, s16⟩
      | true =>
        refine iteT ?_
        refine ⟨_, rfl, rr, _, 2, _, rfl, rfl, SqT.of err9, atI_nat (j := 2) rfl, ?_⟩
        have ecl : cutV (nV fs) none (some 1) = nV (fs.take 1) := by
          have z := cut_to (nV fs) 1 (by rw [nV_len, hfs, List.length_append, List.length_singleton]; omega)
          unfold nV at z ⊢
          rw [List.map_take]
          exact z
        refine ⟨_, rfl, 1, rfl, p2, _, rfl, SqL.of e2y, fun c1 hc1 => ?_⟩
        rw [ecl]
        have hg1 : ∀ f ∈ fs.take 1, f ∈ (evR pr z).st.row := fun f hf => (fsr f).mp (List.mem_of_mem_take hf)
        have hgn : (fs.take 1).Nodup := ((List.Pairwise.imp (fun h => Nat.ne_of_lt h) fsp : fs.Nodup)).sublist (List.take_sublist _ _)
        generalize fs.take 1 = g at hg1 hgn
        have sc := Same.new (o := .lst (nV g)) hc1
        refine ⟨c1, rfl, ⟨_, SqL.of upd_same⟩, fun D hD => ?_⟩
        refine lc_listY (K := K) (a := c1) (xs := nV g) (fun i H' => Same (upd _ c1 (.lst (nV g))) H' ∧ H' D = some (.lst (((g.take i).map (fsz pr)).map V.int))) ⟨Same.new hD, upd_same⟩ (fun i H' _ e => SqL.of (e.1 _ _ upd_same)) ?_ ?_
        · rintro i x1 H22 hi ⟨s1, e1⟩
          obtain ⟨y, hy, rfl⟩ := nV_int hi
          have hyl := hlt y (hg1 y (List.mem_of_getElem? hy))
          have hil := (List.getElem?_eq_some_iff.mp hi).1
          have hgl : g.length ≤ 8 := pig 8 g hgn fun y hy => Nat.lt_of_lt_of_le (hlt y (hg1 y hy)) n8
          rw [nV_len] at hil
          obtain ⟨f, hf⟩ : ∃ f, pr[y]? = some f := ⟨_, List.getElem?_eq_getElem hyl⟩
          obtain ⟨qa, vq, eq1, hqa, hqf⟩ := hpr16.keep (Keep.same (s16.trans (sc.trans s1)))
          cases eq1
          obtain ⟨u, hu, ⟨cc, wv, rfl, hc2, _⟩⟩ := Paired.got hqf hf
          have efs : fsz pr y = f.1 := by
            unfold fsz
            rw [hf]
            rfl
          refine ⟨rfl, _, rfl, _, rfl, pa, _, _, _, rfl, rfl, SqT.of hqa, atI_nat hu, cc, _, 0, _, rfl, rfl, SqT.of hc2, atI_nat (j := 0) rfl, _, e1, sm _ (by rw [List.length_map, List.length_map, List.length_take]; omega), Ov.Same.updn s1 hD, ?_⟩
          rw [upd_same, List.take_add_one, hy, List.map_append, List.map_append]
          show some (HO.lst (_ ++ [V.int f.1])) = some (HO.lst (_ ++ [V.int (fsz pr y)]))
          rw [efs]
        rintro H22 ⟨s22, e22⟩
        rw [nV_len, List.take_length] at e22
        have low := costT_low hok hox hcs hlk f64 hgn hg1 fun f hf => hlt f (hg1 f hf)
        unfold psz at low
        refine ⟨D, _, rfl, SqL.of e22, _, _, rfl, rfl, _, rfl, ?_⟩
        rw [decide_eq_false (show ¬ ((nin : Nat) : Int) < (g.map (fsz pr)).sum by rw [eIn]; omega)]
        refine iteF ?_
        exact ⟨_, _, _, _, _, _, _, _, _, _, _, rfl, s16.trans (sc.trans s22)⟩
    rintro σ' H17 ⟨y13, y14, y15, y16, y17, y18, y19, y20, y21, y22, y23, rfl, s17⟩
    have hpr17 := hpr16.keep (Keep.same s17)
    have d17 := d16.same s17
    have t4 := TrAt.keep (Keep.same s17) t4
    clear all t1 t2 t3 e2 er16 et16 es16 el
    -- by other numbers
    refine ⟨_, rfl, _, rfl, _, rfl, h, c, .ref pa, t, pr, ps, st, rfl, d17, ⟨hpr17, hok, t4, hto⟩, fun H18 r ln v' t' ns pr' ps' st' p b18 d18 er eln hnl hs0 hpre' htr' => ?_⟩
    have hpr18 := hpr17.keep (Keep.but b18 d17)
    have t4 := TrAt.keep (Keep.but b18 d17) t4
    refine ⟨r, _, rfl, SqT.of er, rfl, _, _, rfl, _, _, rfl, _, _, rfl, rfl, ?_⟩
    obtain ⟨dn', hdn'⟩ := hpre'.2.2.2.dn
    obtain ⟨far', hfar'⟩ : ∃ m, Far pr' ps' dn' m := far_ex hpre'.2.1 hpre'.2.2.2
    obtain ⟨hm1', hm64'⟩ := far_le hpre'.2.1 hpre'.2.2.2 hdn' hfar'
    refine ⟨_, rfl, _, rfl, _, rfl, v', t', pr', ps', st', dn', far', 64, z, rfl, hpre', hdn', hfar', by omega, by decide, hz0, hz1, fun H19 r1 tt1 sa1 cs1 s19 _ er1 et1 es1 hcs1 hlk1 => ?_⟩
    obtain ⟨dn, hdn⟩ := hto.dn
    obtain ⟨far, hfar⟩ : ∃ m, Far pr ps dn m := far_ex hok hto
    obtain ⟨hm1, hm64⟩ := far_le hok hto hdn hfar
    refine ⟨_, rfl, _, rfl, _, rfl, .ref pa, t, pr, ps, st, dn, far, 64, z, rfl, ⟨hpr18.keep (Keep.same s19), hok, TrAt.keep (Keep.same s19) t4, hto⟩, hdn, hfar, by omega, by decide, hz0, hz1, fun H20 r2 tt2 sa2 cs2 s20 _ er2 et2 es2 hcs2 hlk2 => ?_⟩
    have e1 := s20 _ _ er1
    have T1 : ToldAt H20 tt1 sa1 (endD (evR pr' z)) (evR pr' z).st.said := ⟨s20 _ _ et1, s20 _ _ es1⟩
    have T2 : ToldAt H20 tt2 sa2 (endD (evR pr z)) (evR pr z).st.said := ⟨et2, es2⟩
    have eln20 := (s19.trans s20) _ _ eln
    have hr := evR_ren htr'.fn hs0 z
    have hcost : Ov.inR pr' ps' dn' cs1 64 z = Ov.inR pr ps dn cs2 64 z := by
      unfold Ov.inR
      rw [hr, ren_row]
      exact htr'.cost hok hpre'.2.1 hto hpre'.2.2.2 hdn hdn' hcs2 hcs1 hlk2 hlk1 (by omega) (by omega) hlt
    rw [hcost] at e1
    generalize Ov.inR pr ps dn cs2 64 z = nin at e1 er2
    have d20 := d18.same (s19.trans s20)
    have hsd : (evR pr' z).st.said = (evR pr z).st.said := by rw [hr, ren_said]
    have fl := endD_flatE (evR pr' z)
    have ly := endD_lay (evR pr' z)
    have hen := ren_end (nmF ns) (evR pr z)
    rw [← hr] at hen
    have hway : ∀ f x, evR pr z = .ok (.way f) x → f < pr.length := fun f x e => evR_way hok hz0 hz1 e
    rw [hsd] at T1
    -- what must be told
    refine ⟨_, _, rfl, ?_⟩
    show tSeq _ _ _ [some (.ref a), some (.ref h), some (.int (0 + (i0 : Int))), some (.ref pa), some (.int z), some (.ref r4), some (.int (pr.map (·.1)).sum), some (.int (pr.length : Int)), some (.ref p2), some (.ref q4), some (.ref q7), some (.ref q9), some t, y13, some (.ref r1), y15, some (.ref ln), some v', some t', some (.ref r2), y20, y21, y22, y23] _
    refine ⟨_, rfl, r2, _, 0, _, rfl, rfl, SqT.of er2, atI_nat (j := 0) rfl, tt2, _, 0, _, rfl, rfl, SqT.of T2.t, atI_nat (j := 0) rfl, rfl, _, rfl, ?_⟩
    have plain : endD (evR pr' z) = endD (evR pr z) → ToldAt H20 tt2 sa2 (endD (evR pr' z)) (evR pr z).st.said := fun e => by rw [e]; exact T2
    by_cases hw : (endD (evR pr z)).1 = "way"
    · obtain ⟨f, rs, hrs⟩ : ∃ f rs, evR pr z = .ok (.way f) rs := by
        cases hv : evR pr z with
        | ok v rs =>
          cases v with
          | num n => rw [hv] at hw; exact absurd hw (show ¬ (("number" : Str) = "way") by decide +kernel)
          | way f => exact ⟨f, rs, rfl⟩
        | bad e rs => rw [hv] at hw; exact absurd hw (show ¬ (("fault" : Str) = "way") by decide +kernel)
      have hfl := hway f rs hrs
      rw [hrs] at hen
      have hen : endD (evR pr' z) = (("way" : Str), V.int ((nmF ns f : Nat) : Int)) := hen
      rw [show (!decide (V.str (endD (evR pr z)).1 = V.str "way")) = false by rw [hw, decide_eq_true rfl]; rfl]
      refine iteF ?_
      have et2w : H20 tt2 = some (.tup [.str "way", .int (f : Int)]) := by
        rw [T2.t, hrs]
        rfl
      have enf : (nV ns)[f]? = some (V.int ((nmF ns f : Nat) : Int)) := nV_get (by rw [List.getElem?_eq_getElem (show f < ns.length by omega), nm_get (show f < ns.length by omega)])
      refine ⟨_, rfl, _, rfl, r2, _, 0, _, rfl, rfl, SqT.of er2, atI_nat (j := 0) rfl, tt2, _, 1, _, rfl, rfl, SqT.of et2w, atI_nat (j := 1) rfl, ln, _, _, _, rfl, rfl, SqL.of eln20, atI_nat enf, sml 2, fun ut hut => ?_⟩
      have w0 := Same.new (o := .tup [V.str "way", .int ((nmF ns f : Nat) : Int)]) hut
      have eut : upd H20 ut (.tup [V.str "way", .int ((nmF ns f : Nat) : Int)]) ut = some (.tup [.str (endD (evR pr' z)).1, (endD (evR pr' z)).2]) := by
        rw [upd_same, hen]
      generalize upd H20 ut (.tup [V.str "way", .int ((nmF ns f : Nat) : Int)]) = H21 at w0 eut ⊢
      refine ⟨_, rfl, _, rfl, sml 1, fun u1 hu1 => ⟨_, rfl, 1, rfl, ?_⟩⟩
      have w1 := Same.new (o := .tup [V.ref ut]) hu1
      dsimp only [tNoPart]
      refine sl_from (k := 1) rfl (w1 _ _ (w0 _ _ er2)) (by show 1 ≤ 3; decide) fun H22 u2 w2 eu2 => ?_
      refine cat_ld (w2 _ _ upd_same) eu2 (by show 1 + 2 ≤ 1000; decide) fun H23 u3 w3 eu3 => ?_
      have w13 := w1.trans (w2.trans w3)
      refine ne3_by (w13 _ _ (w0 _ _ e1)) (T1.same (w0.trans w13)) eu3 ⟨w13 _ _ eut, w13 _ _ (w0 _ _ T2.s)⟩ fl ly ⟨_, rfl, iteF ?_⟩
      exact ⟨_, rfl, rfl, d20.same (w0.trans w13)⟩
    · have hen2 : endD (evR pr' z) = endD (evR pr z) := by
        rw [hen]
        cases hv : evR pr z with
        | ok v rs =>
          cases v with
          | num n => rfl
          | way f => rw [hv] at hw; exact absurd rfl hw
        | bad e rs => rfl
      rw [show (!decide (V.str (endD (evR pr z)).1 = V.str "way")) = true by rw [decide_eq_false fun e => hw (V.str.inj e)]; rfl]
      refine iteT ?_
      have T3 := plain hen2
      refine ⟨_, rfl, r2, _, 0, _, rfl, rfl, SqT.of er2, atI_nat (j := 0) rfl, ?_⟩
      refine ⟨_, rfl, _, rfl, sml 1, fun u1 hu1 => ⟨_, rfl, 1, rfl, ?_⟩⟩
      have w1 := Same.new (o := .tup [V.ref tt2]) hu1
      dsimp only [tNoPart]
      refine sl_from (k := 1) rfl (w1 _ _ er2) (by show 1 ≤ 3; decide) fun H22 u2 w2 eu2 => ?_
      refine cat_ld (w2 _ _ upd_same) eu2 (by show 1 + 2 ≤ 1000; decide) fun H23 u3 w3 eu3 => ?_
      have w13 := w1.trans (w2.trans w3)
      refine ne3_by (w13 _ _ e1) (T1.same w13) eu3 ⟨w13 _ _ T3.t, w13 _ _ T3.s⟩ fl ly ⟨_, rfl, iteF ?_⟩
      exact ⟨_, rfl, rfl, d20.same w13⟩
  · rintro σ' H1 ⟨ys, hys, rfl, d1⟩
    exact q H1
end
end K07

open PySem PySem.W PySem.Calls PyProof.Rows
theorem PySem.Challenge.cw_overlayhall_k07_whole_other_trees_say_th_holds : PySem.Challenge.rw_overlayhall_k07_whole_other_trees_say_th.Holds := by
  w_on; o_law
  refine HandSHeadRun.head_any (r := OpenLaw.row PySem.Challenge.rw_overlayhall_k07_whole_other_trees_say_th) (q := view (OpenLaw.row PySem.Challenge.rw_overlayhall_k07_whole_other_trees_say_th).prog [85]) (H := K07.hk) (ob := K07.ob) (M := 9000) (loose := K07.names) (d := HandSHeadRun.topDef (OpenLaw.row PySem.Challenge.rw_overlayhall_k07_whole_other_trees_say_th).prog 85) (kwd := []) K07.ob_eq
    (by kernel_rfl) (fun s => by kernel_rfl) K07.run (by kernel_rfl) (by kernel_rfl) (by kernel_rfl) (by rfl) (by first | assumption | decide +kernel) (by decide +kernel) ⟨rfl, rfl, rfl, rfl, rfl, by decide +kernel⟩ ?hw ?hc
  case hw => w_witness2
  case hc =>
    refine L2.walk_ofE (l := PySem.Challenge.rw_overlayhall_k07_whole_other_trees_say_th) (n := 63) (k := 125) (x := "_law_script") (CX := L2.CX0) rfl (by decide) (by kernel_rfl) ⟨rfl, by decide, by decide⟩ ?F (fun _ _ _ _ z => z)
    intro w mg fa h Y G hmg0
    obtain ⟨K, KX, c, z⟩ := Y
    have T := K07.Txt.of (w := w) KX G c z
    have hmg : mg ("law" : PySem.Str) = some (.ref fa) := by
      have e : (HandSHeadRun.topDef (OpenLaw.row PySem.Challenge.rw_overlayhall_k07_whole_other_trees_say_th).prog 85).name = ("law" : PySem.Str) := by kernel_rfl
      rw [← e]
      exact hmg0
    cases hmg.symm.trans T.g_law
    have b := L2.FunD.bindsA (ps := ["_law_script"]) T.F_law fun _ _ _ _ _ _ us hl => match us, hl with | [_], _ => rfl
    exact ⟨K, K07.fdOf K K07.d_law, Ov.spLaw K, KX, fun s v => b s [v] rfl, fun H a ns hl _ hS => ⟨a, ns, rfl, hS, hl, fun _ => rfl⟩, fun base _ _ => K07.ok_law T rfl⟩

