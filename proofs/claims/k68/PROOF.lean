import PyProof.Rows.All
import Wide.All
import OpenK.AllK
import Wide.FinOn
import HandS.ForMost
import HandS.ForExc
import HandS.IsInst
import HandS.MakeKwOnly
import HandS.ClsMeth
import HandS.Conv
import HandS.Codes
import HandS.Walk
import HandS.Style
import HandS.Flow
import HandS.Wide
import HandS.OwnEq
import HandS.OwnIter
import HandS.IterVal
import KE.KOwnIter
import PyProof.FactsAll.tuple_iterator_1
import HandS.Deep
import HandS.SortRule
import KE.GoesMore
import KE.GoesEnum
import KE.KLam
import KE.DataMinKey
import HandS.Base
import HandS.Call
import HandS.List
import HandS.Comp
import HandS.Lambda
import HandS.Nested
import HandS.Keys
import HandS.SortInts
import PyProof.NeKinds
import HandS.SetFor
import HandS.Strs
import HandS.TupSets
import KE.SortData
import HandS.Gcd
import KE.KMathGC
import HandS.Sort
import PyProof.AutoSeq1
import KE.KTurns
import HandS.TupLe
import KE.KSortTup
import HandS.Defaults
import HandS.Zip
import HandS.TryOnly
import HandS.TupAny
import KE.DataFind
import PyProof.SumWalkG
import KE.DataMinMax
import HandS.TupMul
import KE.GoesZip
import HandS.Iter
import HandS.Dict
import HandS.More
import HandS.DictComp
import HandS.DictEq
import KE.KDictList
import KE.KStateDown
import HandS.Head0
import HandS.Head1
import HandS.Head2
import HandS.HeadHook4
import HandS.HeadWalk
import KE.KNestM
import HandS.EndTab
import HandS.Rev
import HandS.Small
import HandS.ListItems
import HandS.Head3
import HandS.HeadEnd
import PySem.Challenge.RW_heaprows_k68_whole_settled
set_option Elab.async false
set_option maxRecDepth 100000
set_option Elab.async false
set_option linter.all false
set_option maxRecDepth 100000
set_option maxHeartbeats 2000000
namespace Tw
open PySem PySem.Spec PyProof.Rows L2

/-! own rules: an instance with dunder methods -/
/-- a dunder method of the class at C, its def at f -/
structure Dn (K : PySem.W.Frag) (C : Addr) (m : Str) (f : Addr) : Prop where
  at_ : PySem.W.findIn K (.ref C) m = some (some (.ref f))
  fn : PySem.W.isFn K (.ref f) = true
  fi : PySem.W.fnIn K f = true


section
variable {X : Cx} {CX : CXT} {k n : Nat} {f C : Addr} {fd : FuncData} {ps : List Str} {sp : Sp} {E : XK} {o e : Expr} {pos : Pos} {ta tb : TE} {A1 : Around}
  {pins : List (Addr × Obj)} {σ : L2.St} {H : Hp} {s : Shared} {Q : VK}
theorem Sub.env0 (sb : Sub X n A1) (I : Inv X pins σ H s) : Env0 X.prog X.w X.K X.mg X.base A1 X.stack s H := by
  have q := I.env0
  exact ⟨by rw [sb.fr]; exact q.frames, q.mod, q.bs, q.bsz, q.funs, q.frf, q.hok, q.bare⟩
theorem run_sub {us : List Value} {vs : List V} (F : FnOk X.prog X.w X.K X.mg X.base CX k f fd ps sp) (sb : Sub X k A1) (hb : Binds X.K fd ps []) (hx : Passes CX X E) (I : Inv X pins σ H s) (r : Vals vs us) (h : sp vs H Q E) :
    wpAny (model X.prog X.w) A1 (call (.ref f) us) (EP X pins σ Q) X.xe s := by
  have hl : us.length = ps.length := by rw [← r.length]; exact F.len _ _ _ _ h
  have hb1 : BindsTo s fd ⟨us, []⟩ (ps.zip us) := by
    have z := hb s us I.kIn (by rw [List.append_nil]; exact hl)
    rw [List.append_nil] at z
    exact z
  refine wpAny_call (codeAny_mono (F.run A1 X.stack s H ⟨us, []⟩ us vs Q E sb.room (Sub.env0 sb I) hb1 r h) fun z s' hq => ?_)
  match z, hq with
  | .error e, hq => exact hx pins σ H s e s' I hq
  | .ok (.ret u), hq => exact I.after hq
  | .ok .next, hq => exact False.elim hq
  | .ok .brk, hq => exact False.elim hq
  | .ok .cont, hq => exact False.elim hq
theorem relR (a : Addr) : RelV (V.ref a) (Value.ref a) := rfl
theorem relB (b : Bool) : RelV (V.bl b) (Value.bool b) := rfl
theorem relI (i : Int) (t : Tok) : RelV (V.int i) (Value.int i t) := ⟨t, rfl⟩
/-- o[e] by the class's own def -/
def tGi (C : Addr) (sp : Sp) (E : XK) (ta tb : TE) : TE := fun σ H Q => ta σ H fun x H1 => tb σ H1 fun y H2 =>
  ∃ a dx fs, x = .ref a ∧ H2 a = some (.ins C dx fs) ∧ sp [.ref a, y] H2 Q E
theorem pe_gi (hd : Dn X.K C "__getitem__" f) (F : FnOk X.prog X.w X.K X.mg X.base CX k f fd ps sp) (hr : Room (k + 1) X.A) (hb : Binds X.K fd ps []) (hx : Passes CX X E) (ho : PE X o ta) (he : PE X e tb)
    (hs : ∀ v u, subscripted e true v u = runValue (.builtin "lifetime.subscript" ⟨[v, u], []⟩) := by intro _ _; with_unfolding_all rfl) :
    PE X (.Subscript o e pos) (tGi C sp E ta tb) := by
  refine ⟨fun pins s σ H Q I h => ?_⟩
  refine Subscript_ (binT ho he (R := fun x y H2 => ∃ a dx fs, x = .ref a ∧ H2 a = some (.ins C dx fs) ∧ sp [.ref a, y] H2 Q E) I h fun v u s2 x y H2 I2 rx ry ⟨a, dx, fs, ex, ha, q⟩ => ?_)
  subst ex
  obtain rfl : v = Value.ref a := rx
  obtain ⟨mA, O, rr, _, _, _⟩ := ins_get I2.hok ha
  obtain ⟨od, J, hl⟩ := O.look
  obtain ⟨m0, hF⟩ := I2.fr
  exact PySem.W.sub_K hF I2.ok.mod.kin J hd.at_ hd.fi hd.fn (run_sub F (Sub.in1 ⟨hr, rfl⟩) hb hx I2 (.cons (relR a) (.cons ry .nil)) q) (hs _ _)
/-- e in o, by the class's own def -/
def rIn (C : Addr) (sp : Sp) (E : XK) (neg : Bool) : R2 := fun x y H Q =>
  ∃ a dx fs, y = .ref a ∧ H a = some (.ins C dx fs) ∧ sp [.ref a, x] H (fun v H' => ∃ b, v = .bl b ∧ Q (.bl (if neg then !b else b)) H') E
theorem op_in_own (hd : Dn X.K C "__contains__" f) (F : FnOk X.prog X.w X.K X.mg X.base CX k f fd ps sp) (hr : Room k X.A) (hb : Binds X.K fd ps []) (hx : Passes CX X E) : OpR X (compareOp .In) (rIn C sp E false) := by
  intro pins s σ H x y v u Q I rx ry ⟨a, dx, fs, ey, ha, q⟩
  subst ey
  obtain rfl : u = Value.ref a := ry
  obtain ⟨mA, O, rr, _, _, _⟩ := ins_get I.hok ha
  obtain ⟨od, J, hl⟩ := O.look
  obtain ⟨m0, hF⟩ := I.fr
  refine PySem.W.in_K hF I.ok.mod.kin J hd.at_ hd.fn (thn (run_sub F ⟨hr, rfl⟩ hb hx I (.cons (relR a) (.cons rx .nil)) q) fun r s' ⟨z, H', I', rz, b, ez, q'⟩ => ?_)
  subst ez
  obtain rfl : r = Value.bool b := rz
  exact wpAny_truthy_bool ⟨_, _, I', relB b, q'⟩
/-- len(o) by the class's own def -/
def rLenO (C : Addr) (sp : Sp) (E : XK) : List V → Hp → VK → Prop := fun xs H Q =>
  ∃ a dx fs, xs = [.ref a] ∧ H a = some (.ins C dx fs) ∧ sp [.ref a] H (fun v H' => ∃ n : Nat, v = .int n ∧ n < 1000 ∧ Q (.int n) H') E
theorem call_len_own (hd : Dn X.K C "__len__" f) (F : FnOk X.prog X.w X.K X.mg X.base CX k f fd ps sp) (hr : Room (k + 1) X.A) (hb : Binds X.K fd ps []) (hx : Passes CX X E) : CallR X (.builtin "len") (rLenO C sp E) := by
  intro pins s σ H xs us Q I rv ⟨a, dx, fs, ex, ha, q⟩
  subst ex
  obtain ⟨u, rfl, ru⟩ := rv.one
  obtain rfl : u = Value.ref a := ru
  obtain ⟨mA, O, rr, _, _, _⟩ := ins_get I.hok ha
  obtain ⟨od, J, hl⟩ := O.look
  obtain ⟨m0, hF⟩ := I.fr
  refine PySem.W.len_K hF I.ok.mod.kin J hd.at_ hd.fn (thn (run_sub F (Sub.in1 ⟨hr, rfl⟩) hb hx I (.cons (relR a) .nil) q) fun r s' ⟨z, H', I', rz, n, ez, hn, q'⟩ => ?_)
  subst ez
  obtain ⟨t, rfl⟩ := rz
  exact ⟨⟨by omega, by omega⟩, _, _, I'.tok _, relI _ _, q'⟩
end

/-! for x in o, o an instance whose __iter__ says: return iter(self.F), F a tuple -/
def itTup (t : Addr) (i : Nat) : Obj := { cls := .type "tuple_iterator", data := .fields #[.ref t, .int (i : Nat) 0] }
def ItT (t it : Addr) (i : Nat) : HO := .ext fun h => h.get? it = some (itTup t i)
def rIterT (K : PySem.W.Frag) (n : Nat) : List V → Hp → VK → Prop := fun xs H Q => ∃ (t : Addr) (zs : List V), xs = [.ref t] ∧ SqT K H t zs ∧ ∀ it, H it = Option.none → n ≤ it → Q (.ref it) (upd H it (ItT t it 0))
section
variable {X : Cx}
theorem call_iterT : CallR X (.builtin "iter") (rIterT X.K X.s_0.heap.objs.size) := by
  intro pins s σ H xs us Q I r ⟨t, zs, e, hq, q⟩
  subst e
  obtain ⟨u, rfl, ru⟩ := r.one
  obtain rfl : u = Value.ref t := ru
  obtain ⟨its, rv, pl, hz⟩ := I.tuple hq
  refine Calls.call_function_entry (by decide +kernel) (by decide +kernel) PySem.W.kdk_entry_iter (PySem.W.kdk_args_iter _) ?_
  unfold Builtin.«iter»
  refine wpAny_bind (m := someArgs "iter" 1 2 _) (wpAny_of_eq (a := [Value.ref t]) (by first | rfl | kernel_rfl!) ?_)
  show wpAny _ _ (pyIter (.ref t) >>= _) _ _ _
  refine wpAny_bind (wpAny_pyIter_tuple (show s.heap.IsTuple t its.toArray from pl) ?_)
  have g : (s.heap.push (itTup t 0)).get? s.heap.objs.size = some (itTup t 0) := Heap.get?_push_size _ rfl
  have ok : ObjOk X.prog X.w (upd H s.heap.objs.size (ItT t s.heap.objs.size 0)) (s.heap.push (itTup t 0)) s.heap.objs.size (ItT t s.heap.objs.size 0) := ⟨g, ⟨_, g⟩, fun _ _ q k => k _ q⟩
  exact wpAny_pure ⟨_, rfl, .ref s.heap.objs.size, _, I.laid (t' := s.toks) (fun b u e => Heap.get?_push_of_some _ e) (Nat.le_refl _) ok, relR _, q _ (I.hok.fresh (Nat.le_refl _)) I.sz⟩
end

/-- a promise that may speak of how many objects there are when the def is called -/
def FnIt (P : Program) (w : World) (K : PySem.W.Frag) (mg : Str → Option Value) (base : Heap) (k : Nat) (f : Addr) (fd : FuncData) (ps : List Str) (sp : Nat → List V → Hp → VK → Prop) : Prop :=
  ∀ (A : Around) (outer : List Env) (s : Shared) (H : Hp) (us : List Value) (vs : List V) (Q : VK), Room k A → Env0 P w K mg base A outer s H → BindsTo s fd ⟨us, []⟩ (ps.zip us) → vs.length = ps.length → Vals vs us →
    sp s.heap.objs.size vs H Q → codeAny (model P w) A (.call (.ref f) ⟨us, []⟩) (CR CX0 outer P w H s Q E0) s
section
variable {P : Program} {w : World} {K : PySem.W.Frag} {mg : Str → Option Value} {base : Heap}
theorem fnIt_of {x qual : Str} {st : Stmt} {f : Addr} {fd : FuncData} {N ps : List Str} {k : Nat} {sp : Nat → List V → Hp → VK → Prop} (F : Fun K x qual st f fd) (S : FnScope N ps (defScope st))
    (hbody : ∀ (cdv : Value) (A : Around) (outer : List Env) (s : Shared) (H : Hp) (vs : List V) (Q : VK), Room k (A.deeper (envOfC qual (defScope st) s.heap.objs.size f cdv)) → sp s.heap.objs.size vs H Q →
      ∃ t, PSs (cxOf CX0 P w K mg base N qual (defScope st) f cdv A outer s H E0).nox (defBody st) t ∧ t { nx := fun _ H' => Q .non H', rt := Q } (start N vs) H) : FnIt P w K mg base (k + 1) f fd ps sp := by
  obtain ⟨oc, od, kV, doc, pm, an, cdv, ct, osl, rfl, lk, hcd⟩ := F.ex
  intro A outer s H us vs Q hr e0 hb hl r hsp
  have kin : K.In s.heap := e0.mod.kin.keeps fun b o e => (e0.bs b o e).1
  have lim : s.heap.NoLimit := e0.mod.nolimit.keeps fun b o e => (e0.bs b o e).1
  have kinds : ∀ y ∈ ps.zip us, (defScope st).names.lookup y.1 = some .local ∨ ((defScope st).names.lookup y.1 = some .cell ∧ ((cellsFrom (s.heap.objs.size + 1) (defScope st).names []).lookup y.1).isSome = true) := by
    intro y hy
    cases S.par y.1 (List.of_mem_zip (a := y.1) (b := y.2) hy).1 with
    | inl q => exact .inl q
    | inr q => exact .inr ⟨q, PySem.W.cellsFrom_some _ _ _ (.inl q)⟩
  apply codeAny_call_function hr.depth (kin _ _ lk) rfl S.co S.gen rfl (PySem.W.codeRec_of kin hcd) (hb _ _ _ _ ?_)
  apply wpAny_newFunctionEnv_cells S.kind kinds
  intro env he s1 x
  subst he
  refine ⟨lim.keeps x.toInCall.keep, codeAny_func ?_⟩
  obtain ⟨t, ht, hq⟩ := hbody cdv A outer s H vs Q (hr.deeper _) hsp
  have I := inv_start (CX := CX0) (P := P) (w := w) (E := E0) (cd := cdv) (qual := qual) (f := f) (outer := outer) S hr.hd e0 hl r x
  refine wpAny_mono (ht.nox.run [] s1 (start N vs) H _ I hq) (fun fl s' hs => ?_) fun e s' hs => hs
  match fl, hs with
  | .ret u, ⟨v, σ', H', J, rv, q⟩ => exact ⟨v, H', J.os, J.bare, J.base, J.hok, rv, q⟩
  | .next, ⟨σ', H', J, q⟩ => exact ⟨V.non, H', J.os, J.bare, J.base, J.hok, rfl, q⟩
  | .brk, ⟨_, _, _, q⟩ => exact False.elim q
  | .cont, ⟨_, _, _, q⟩ => exact False.elim q
end
/-- what such an __iter__ promises -/
def spIter (K : PySem.W.Frag) (C : Addr) (fld : Str) : Nat → List V → Hp → VK → Prop := fun n vs H Q => ∃ a dx fs t zs, vs = [.ref a] ∧ H a = some (.ins C dx fs) ∧ fs.lookup fld = some (.ref t) ∧ SqT K H t zs ∧
  ∀ it, H it = Option.none → n ≤ it → Q (.ref it) (upd H it (ItT t it 0))
/-- x in o, for a loop: o's own tuple is walked -/
def iOwn (K : PySem.W.Frag) (C : Addr) (fld : Str) (to : TE) : TI := fun σ H R => to σ H fun x H1 => ∃ a dx fs t zs, x = .ref a ∧ H1 a = some (.ins C dx fs) ∧ fs.lookup fld = some (.ref t) ∧ SqT K H1 t zs ∧ R (Itt K t) H1
section
variable {X : Cx} {k : Nat} {f C : Addr} {fd : FuncData} {fld : Str} {tg o : Expr} {to : TE} {pins : List (Addr × Obj)} {σ : L2.St} {H : Hp} {s : Shared} {A1 : Around}
theorem run_iter {a t dx : Addr} {fs : List (Str × V)} {zs : List V} (F : FnIt X.prog X.w X.K X.mg X.base k f fd ["self"] (spIter X.K C fld)) (sb : Sub X k A1) (hb : Binds X.K fd ["self"] []) (I : Inv X pins σ H s)
    (ha : H a = some (.ins C dx fs)) (hf : fs.lookup fld = some (.ref t)) (ht : SqT X.K H t zs) {E : Value → Shared → Prop} :
    wpAny (model X.prog X.w) A1 (call (.ref f) [.ref a]) (fun u s' => ∃ it, u = .ref it ∧ s.heap.objs.size ≤ it ∧ H it = Option.none ∧ Inv X pins σ (upd H it (ItT t it 0)) s') E s := by
  have hb1 : BindsTo s fd ⟨[.ref a], []⟩ ((["self"] : List Str).zip [Value.ref a]) := by
    have z := hb s [.ref a] I.kIn rfl
    exact z
  refine wpAny_call (codeAny_mono (F A1 X.stack s H [.ref a] [.ref a] (fun v H' => ∃ it, v = .ref it ∧ s.heap.objs.size ≤ it ∧ H it = Option.none ∧ H' = upd H it (ItT t it 0)) sb.room (Sub.env0 sb I) hb1 rfl (.cons (relR a) .nil)
    ⟨a, dx, fs, t, zs, rfl, ha, hf, ht, fun it h0 hn => ⟨it, rfl, hn, h0, rfl⟩⟩) fun z s' hq => ?_)
  match z, hq with
  | .error e, hq => exact hq.elim
  | .ok (.ret u), hq =>
    obtain ⟨v, H', I', rv, it, ev, hn, h0, eH⟩ := I.after hq
    subst ev
    rw [eH] at I'
    obtain rfl : u = Value.ref it := rv
    exact ⟨it, rfl, hn, h0, I'⟩
  | .ok .next, hq => exact False.elim hq
  | .ok .brk, hq => exact False.elim hq
  | .ok .cont, hq => exact False.elim hq
theorem pi_own (hd : Dn X.K C "__iter__" f) (F : FnIt X.prog X.w X.K X.mg X.base k f fd ["self"] (spIter X.K C fld)) (hr : Room k X.A) (hb : Binds X.K fd ["self"] []) (ho : PE X o to) : PI X tg o (iOwn X.K C fld to) := by
  refine ⟨fun pins s σ H R I h => ?_⟩
  refine thn (ho.run pins s σ H _ I h) fun u s1 ⟨x, H1, I1, rx, a, dx, fs, t, zs, ex, ha, hf, ht, q⟩ => ?_
  subst ex
  obtain rfl : u = Value.ref a := rx
  obtain ⟨mA, O, rr, _, _, _⟩ := ins_get I1.hok ha
  obtain ⟨od, J, hl⟩ := O.look
  obtain ⟨m0, hF⟩ := I1.fr
  refine PySem.W.owit_iter hF I1.ok.mod.kin J hd.at_ hd.fn (thn (run_iter F ⟨hr, rfl⟩ hb I1 ha hf ht) fun r s2 ⟨it, er, hn, h0, I2⟩ => ?_)
  subst er
  have e2 : upd H1 it (ItT t it 0) it = some (ItT t it 0) := upd_same
  have g : s2.heap.get? it = some (itTup t 0) := (I2.hok it _ e2).1
  have hT : s2.TypeIs (.ref it) "tuple_iterator" := ⟨_, g, rfl⟩
  have hfp := ItX.inv_fp I2 e2 (Nat.le_trans I1.sz hn)
  have I3 := ItX.inv_drop I2 e2
  rw [ItX.dropH_upd h0] at I3 hfp
  unfold PySem.W.OwitIt
  refine wpAny_specialOf (name := Str.ofString "__next__") hT PySem.F.slot_tuple_iterator_next.lookup ?_
  refine ⟨it, [it], _, _, H1, rfl, I3, turn_tuple t it, ⟨_, g, rfl, rfl⟩, fun b hb => ?_, q⟩
  rw [List.mem_singleton.mp hb]
  exact hfp
end
/-! C.m(e, .., k = v, ..), m a classmethod; cls(e, .., k = v, ..), cls a local name that holds the class -/
def tCMethK (C : Addr) (n m : Nat) (sp : Sp) (gV : List V → List V → List V) (E : XK) (ta : TE) (t tk : TA) : TE := fun σ H Q => ta σ H fun x H1 => x = .ref C ∧ t σ H1 fun vs H2 => tk σ H2 fun zs H3 => (.ref C :: vs).length = n ∧ zs.length = m ∧ sp (gV (.ref C :: vs) zs) H3 Q E
def tMakeLK (i : Nat) (C : Addr) (n m : Nat) (sp : Sp) (gV : List V → List V → List V) (E : XK) (t tk : TA) : TE := fun σ H Q => σ[i]? = some (some (.ref C)) ∧ tMakeK C n m sp gV E t tk σ H Q
section
variable {X : Cx} {CX : CXT} {k n i : Nat} {C p g f : Addr} {mc : Value} {sp : Sp} {E : XK} {o e : Expr} {es : List Expr} {kws : List Keyword} {m x : Str} {pos apos xpos : Pos} {ta : TE} {t tk : TA} {pl : Sem Bool} {fd : FuncData} {ps ks : List Str}
  {gv : List Value → List Value → List Value} {gV : List V → List V → List V}
theorem pe_cmethK (he : PE X o ta) (r : ClX.CRead X.K C mc) (c : ClX.CMet X.K C mc m p g) (F : FnOk X.prog X.w X.K X.mg X.base CX k g fd ps sp) (hr : Room k X.A) (hb : KBn X.K fd ps n ks gv gV) (hx : Passes CX X E) (ha : PA X (e :: es) t) (hkw : PK X kws tk)
    (hall : (backToKw pos (keywordEach kws X.env)).all (·.1.isSome) = true := by rfl) (hks : (backToKw pos (keywordEach kws X.env)).filterMap (·.1) = ks := by rfl)
    (hst : starEach (e :: es) X.env = (false, eval e X.env) :: starEach es X.env := by rfl) (hpl : ((backTo pos (starEach (e :: es) X.env)).any (·.1) || (backToKw pos (keywordEach kws X.env)).any (·.1.isNone)) = false := by rfl)
    (ht : eval (.Call (.Attribute o m apos) (e :: es) kws pos) X.env = (do
      let ov ← eval o X.env
      standAt apos.atName
      let (f, first) ← holding [ov] (getMethod ov m pl)
      callWith pos f first (backTo pos (starEach (e :: es) X.env)) (backToKw pos (keywordEach kws X.env))) := by rfl) :
    PE X (.Call (.Attribute o m apos) (e :: es) kws pos) (tCMethK C n ks.length sp gV E ta t tk) := by
  refine ⟨fun pins s σ H Q I h => ?_⟩
  refine PySem.W.methodCall_KW (pl := pl) (thn (he.run pins s σ H _ I h) fun u s1 ⟨x, H1, I1, rx, ex, q⟩ => ?_) ht
  subst ex
  obtain rfl : u = Value.ref C := rx
  refine ClX.getmethcm_ok I1 r c fun s2 I2 => ?_
  refine PySem.W.callWith_of (P := PySem.W.MethP X.K s1.heap.objs.size g (.ref C)) hpl (PySem.W.keeps_M c.fi) (evalArgs_kw2 hall (thn (ha.run pos _ s2 σ H1 _ I2 q) fun us s3 ⟨vs, H2, I3, rv, q2⟩ => ?_) hst)
  refine thn (hkw.run pos _ s3 σ H2 _ I3 q2) fun ws s4 ⟨zs, H3, I4, rz, l1, l2, q3⟩ => ⟨⟨ClX.pin_at I4, I4.kIn⟩, ?_⟩
  rw [hks]
  have r2 : Vals (V.ref C :: vs) (Value.ref C :: us) := .cons (relR C) rv
  have n1 : (Value.ref C :: us).length = n := r2.length.symm.trans l1
  have I5 := ClX.unpin I4
  refine wpAny_call (PySem.W.method_call (ClX.pin_at I4) (codeAny_mono (F.run X.A X.stack s4 H3 ⟨Value.ref C :: us, ks.zip ws⟩ _ _ Q E hr I5.env0 (hb.to _ (Value.ref C :: us) ws I5.kIn n1 (rz.length.symm.trans l2)) (hb.rel r2 rz) q3) fun z s' hq => ?_))
  match z, hq with
  | .error e, hq => exact hx pins σ H3 s4 e s' I5 hq
  | .ok (.ret u), hq => exact I5.after hq
  | .ok .next, hq => exact False.elim hq
  | .ok .brk, hq => exact False.elim hq
  | .ok .cont, hq => exact False.elim hq
theorem pe_makeLK (M : Mk X.K C f) (F : FnOk X.prog X.w X.K X.mg X.base CX k f fd ps sp) (hr : Room (k + 1) X.A) (hb : KBn X.K fd ps (n + 1) ks gv gV) (hx : Passes CX X E) (ha : PA X (e :: es) t) (hkw : PK X kws tk)
    (hN : X.N[i]? = some x) (hv : Vis X.env.scope x) (hd : (x == ("__debug__" : Str)) = false := by decide) (hcd : (x == ("__classdict__" : Str)) = false := by decide)
    (hall : (backToKw pos (keywordEach kws X.env)).all (·.1.isSome) = true := by rfl) (hks : (backToKw pos (keywordEach kws X.env)).filterMap (·.1) = ks := by rfl)
    (hst : starEach (e :: es) X.env = (false, eval e X.env) :: starEach es X.env := by rfl) (hpl : ((backTo pos (starEach (e :: es) X.env)).any (·.1) || (backToKw pos (keywordEach kws X.env)).any (·.1.isNone)) = false := by rfl) :
    PE X (.Call (.Name x xpos) (e :: es) kws pos) (tMakeLK i C n ks.length sp gV E t tk) := by
  refine ⟨fun pins s σ H Q I ⟨h0, h⟩ => ?_⟩
  refine wpAny_Call_Name_kw (thn ((pe_var (pos := xpos) (i := i) hN hv hd hcd).run pins s σ H (fun v H1 => v = .ref C ∧ H1 = H) I ⟨.ref C, h0, rfl, rfl⟩) fun u s1 ⟨v, H1, I1, r1, ev, eH⟩ => ?_)
  subst ev
  rw [eH] at I1
  obtain rfl : u = Value.ref C := r1
  refine PySem.W.callWith_KW (h₀ := X.base) I1.ok.mod.kin M.kp hall (thn (ha.run pos pins s1 σ H _ I1 h) fun us s2 ⟨vs, H2, I2, r, q⟩ => ?_) hpl hst
  refine thn (hkw.run pos pins s2 σ H2 _ I2 q) fun ws s3 ⟨zs, H3, I3, rz, l1, l2, q2⟩ => ⟨I3.kIn, ?_⟩
  rw [hks]
  exact run_makeK M F hr hb hx I3 r rz l1 l2 q2
end

/-! heaps that only grow -/
theorem Same.up {H : Hp} {p : Addr} {o : HO} (h : H p = Option.none) : Same H (upd H p o) := fun b u e => by
  rw [upd_ne (ne_of_none e h)]
  exact e
/-- a list under way at D, which was not there in H1 -/
structure Acc (H1 : Hp) (D : Addr) (acc : List V) (H : Hp) : Prop where
  s : Same H1 H
  n : H1 D = Option.none
  a : H D = some (.lst acc)
theorem Acc.start {H1 : Hp} {D : Addr} (n : H1 D = Option.none) : Acc H1 D [] (upd H1 D (.lst [])) := ⟨Same.up n, n, upd_same⟩
theorem Acc.same {H1 H H' : Hp} {D : Addr} {acc : List V} (h : Acc H1 D acc H) (s : Same H H') : Acc H1 D acc H' := ⟨h.s.trans s, h.n, s _ _ h.a⟩
theorem Acc.push {H1 H : Hp} {D : Addr} {acc zs : List V} (h : Acc H1 D acc H) : Acc H1 D zs (upd H D (.lst zs)) :=
  ⟨fun b o e => by rw [upd_ne (ne_of_none e h.n)]; exact h.s b o e, h.n, upd_same⟩
theorem Same.none' {H H' : Hp} (s : Same H H') {p : Addr} (h : H' p = Option.none) : H p = Option.none := s.free h
theorem Same.of_upd {H H' : Hp} {p : Addr} {o : HO} (h : H p = Option.none) (s : Same (upd H p o) H') : Same H H' := (Same.up h).trans s
/-- a list of ints as values -/
theorem ints_at {ns : List Int} {i : Nat} {x : V} (h : (ns.map V.int)[i]? = some x) : ∃ (hi : i < ns.length), x = .int ns[i] := by
  rw [List.getElem?_map] at h
  cases e : ns[i]? with
  | none => rw [e] at h; cases h
  | some u =>
    rw [e] at h
    obtain ⟨hi, rfl⟩ := List.getElem?_eq_some_iff.mp e
    exact ⟨hi, (Option.some.inj h).symm⟩

/-! comprehensions that pick -/
section
variable {α : Type} {H1 H : Hp} {D : Addr} {ks : List α} {f : α → Option V} {i : Nat} {c : α → V}
def PickI (H1 : Hp) (D : Addr) (ks : List α) (f : α → Option V) : Nat → Hp → Prop := fun i H => Acc H1 D ((ks.take i).filterMap f) H
theorem pick_start (n : H1 D = Option.none) : PickI H1 D ks f 0 (upd H1 D (.lst [])) := Acc.start n
theorem take_fm (hi : i < ks.length) : (ks.take (i + 1)).filterMap f = (ks.take i).filterMap f ++ (f ks[i]).toList := by
  rw [List.take_succ_eq_append_getElem hi, List.filterMap_append]
  cases h : f ks[i] <;> simp [h]
theorem pick_yes {H' : Hp} {y : V} (hi : i < ks.length) (hl : ks.length ≤ 1000) (e : f ks[i] = some y) (s : Same H H') (h : PickI H1 D ks f i H) :
    ∃ acc, H' D = some (.lst acc) ∧ acc.length < sizeLine ∧ PickI H1 D ks f (i + 1) (upd H' D (.lst (acc ++ [y]))) := by
  have h2 := Acc.same h s
  refine ⟨_, h2.a, small1000 ?_, ?_⟩
  · exact Nat.le_trans (Nat.le_trans (List.length_filterMap_le _ _) (List.length_take_le _ _)) (by omega)
  · unfold PickI
    rw [take_fm hi, e]
    exact h2.push
theorem pick_no {H' : Hp} (hi : i < ks.length) (e : f ks[i] = none) (s : Same H H') (h : PickI H1 D ks f i H) : PickI H1 D ks f (i + 1) H' := by
  unfold PickI
  rw [take_fm hi, e, Option.toList_none, List.append_nil]
  exact Acc.same h s
theorem pick_end {m : Nat} (hm : m = ks.length) (h : PickI H1 D ks f m H) : Acc H1 D (ks.filterMap f) H := by
  subst hm
  unfold PickI at h
  rw [List.take_length] at h
  exact h
theorem map_at {x : V} (h : (ks.map c)[i]? = some x) : ∃ hi : i < ks.length, x = c ks[i] := by
  rw [List.getElem?_map] at h
  cases e : ks[i]? with
  | none => rw [e] at h; cases h
  | some u =>
    rw [e] at h
    obtain ⟨hi, rfl⟩ := List.getElem?_eq_some_iff.mp e
    exact ⟨hi, (Option.some.inj h).symm⟩
end
end Tw

set_option Elab.async false
set_option linter.all false
set_option maxRecDepth 100000
set_option maxHeartbeats 2000000
namespace Tw
open PySem PySem.Spec PyProof.Rows L2
open PySem.W (InstAt looks_findIn looks_subIn ifBound_K cmp_K)
/-- a class with an own __eq__ and the usual != -/
structure EqC (K : PySem.W.Frag) (C f : Addr) : Prop where
  eq : PySem.W.findIn K (.ref C) "__eq__" = some (some (.ref f))
  fn : PySem.W.isFn K (.ref f) = true
  ne : PySem.W.findIn K (.ref C) "__ne__" = some (some (.builtin "object.__ne__"))
  ob : PySem.W.subIn K (.ref C) (.type "object") = some true
  ni : PySem.W.subIn K (.type "int") (.ref C) = some false
  nt : PySem.W.subIn K (.type "tuple") (.ref C) = some false

section
variable {prog : Program} {w : World} {A : Around} {E : Value → Shared → Prop} {s : Shared} {K : PySem.W.Frag} {x C L f : Addr} {h₀ : Heap} {m : Str → Option Value} {ox : Obj} {od : Option Obj} {b tb : Value}
theorem ne_entry {Q : PySem.Fin → Shared → Prop} (hu : A.units < cLine) (X : K.In s.heap) (I : InstAt s.heap x ox C od) (c : EqC K C f)
    (h : wpAny (model prog w) A (call (.ref f) [.ref x, b]) (fun v s' => ∃ r, v = .bool r ∧ Q (.done (.ret (.bool (!r)))) s') E s) :
    wpAny (model prog w) A (Builtin.«object.__ne__» ⟨[.ref x, b], []⟩) Q E s := by
  unfold Builtin.«object.__ne__»
  refine wpAny_bind (wpAny_of_eq (a := (Value.ref x, [b])) (by first | rfl | kernel_rfl!) ?_)
  refine wpAny_bind (wpAny_cRoomFor hu ?_)
  refine wpAny_bind (m := callSpecialIfBound? (.ref x) (Str.ofString "__eq__") [b]) (ifBound_K X I c.eq c.fn (wpAny_mono h (fun v s' hv => ?_) fun _ _ e => e))
  obtain ⟨r, e, q⟩ := hv
  subst e
  refine wpAny_bind (m := truthy (.bool r)) (wpAny_truthy_bool ?_)
  exact wpAny_pure q
theorem ne_call {Q : Value → Shared → Prop} (hu : A.in1.units < cLine) (X : K.In s.heap) (I : InstAt s.heap x ox C od) (c : EqC K C f)
    (h : wpAny (model prog w) A.in1 (call (.ref f) [.ref x, b]) (fun v s' => ∃ r, v = .bool r ∧ Q (.bool (!r)) s') E s) :
    wpAny (model prog w) A (call (.builtin "object.__ne__") [.ref x, b]) Q E s := by
  have t2 : PySem.W.Looks (model prog w) s.heap (isInstance (.ref x) (.type "object")) true := I.type.andThen (looks_subIn X c.ob)
  refine wpAny_call (codeAny_call_builtin F.cmp_object.ne.plain F.cmpEntry_ne (PySem.W.check_slot F.cmpKind_ne F.cmpSplit_ne t2 (F.cmpArgs_ne _ _) (ne_entry hu X I c (wpAny_mono h (fun v s' hv => ?_) fun _ _ e => e))))
  obtain ⟨r, e, q⟩ := hv
  exact ⟨r, e, q⟩
theorem ne_bound {Q : Option Value → Shared → Prop} (hu : A.in1.units < cLine) (X : K.In s.heap) (I : InstAt s.heap x ox C od) (c : EqC K C f)
    (h : wpAny (model prog w) A.in1 (call (.ref f) [.ref x, b]) (fun v s' => ∃ r, v = .bool r ∧ Q (some (.bool (!r))) s') E s) :
    wpAny (model prog w) A (callSpecialIfBound? (.ref x) "__ne__" [b]) Q E s := by
  simp only [callSpecialIfBound?, bindSpecialIfBound?]
  refine wpAny_holding (wpAny_bind (wpAny_bind (wpAny_bind (I.type.here ((looks_findIn X c.ne).here ?_)))))
  refine wpAny_bind (wpAny_askSetting (wpAny_ite ?_))
  have fin : wpAny (model prog w) A (call (.builtin "object.__ne__") ([.ref x] ++ [b]) >>= fun v => pure (some v)) Q E s :=
    wpAny_bind (ne_call hu X I c (wpAny_mono h (fun v s' ⟨r, e, q⟩ => ⟨r, e, wpAny_pure q⟩) fun _ _ e => e))
  have bd := F.cmp_object.ne.bind (.ref x)
  split
  · refine wpAny_bind ?_
    rw [bd]
    exact wpAny_pure (wpAny_pure (by exact fin))
  · refine wpAny_tryCatch (wpAny_bind ?_)
    rw [bd]
    exact wpAny_pure (wpAny_pure (by exact fin))
theorem ne_K {Q : Value → Shared → Prop} (hu : A.in1.units < cLine) (hu0 : A.units < cLine) (F : Fr h₀ L s.heap m) (X₀ : K.In h₀) (I : InstAt s.heap x ox C od) (hb : PySem.W.Looks (model prog w) s.heap (typeOf b) tb) (hn : PySem.W.notFirst K C tb = true) (c : EqC K C f)
    (h : wpAny (model prog w) A.in1 (call (.ref f) [.ref x, b]) (fun v s' => ∃ r, v = .bool r ∧ Q (.bool (!r)) s') E s) : wpAny (model prog w) A (richCompare .NotEq (.ref x) b) Q E s := by
  have X := X₀.keeps F.keep
  have one : wpAny (model prog w) A (tryCompare (.ref x) (cmpInfo .NotEq).2.1 b) (fun r s' => ∃ v, r = some v ∧ Q v s') E s := by
    unfold tryCompare
    refine wpAny_bind (ne_bound hu X I c (wpAny_mono h (fun v s' ⟨r, e, q⟩ => ⟨r, e, ?_⟩) fun _ _ e => e))
    exact wpAny_pure ⟨_, rfl, q⟩
  have two : ∀ r s', (∃ v, r = some v ∧ Q v s') → ∃ v, r = some v ∧ Q v s' := fun _ _ z => z
  unfold richCompare
  simp only [oneThing_ref]
  refine wpAny_holding (wpAny_bind (wpAny_cRoomFor hu0 ?_))
  refine wpAny_bind (I.type.here (wpAny_bind (hb.here ?_)))
  split
  · rename_i q
    have e : PySem.W.subIn K tb (.ref C) = some false := by
      rcases Bool.or_eq_true_iff.mp hn with e | e
      · rw [beq_iff_eq.mp e] at q; simp at q
      · exact beq_iff_eq.mp e
    refine wpAny_bind ((looks_subIn X e).here ?_)
    simp only [Bool.false_eq_true, if_false]
    refine wpAny_bind (wpAny_mono one (fun r s' ⟨v, ev, hq⟩ => ?_) fun _ _ e => e)
    subst ev
    exact wpAny_pure hq
  · refine wpAny_bind (wpAny_pure ?_)
    simp only [Bool.false_eq_true, if_false]
    refine wpAny_bind (wpAny_mono one (fun r s' ⟨v, ev, hq⟩ => ?_) fun _ _ e => e)
    subst ev
    exact wpAny_pure hq
end
/-! as rules -/
section
variable {X : Cx} {CX : CXT} {k : Nat} {f C : Addr} {fd : FuncData} {ps : List Str} {sp : Sp} {E : XK}
/-- the other operand: an instance of the same class, an int, a tuple -/
inductive Oth (H : Hp) (C : Addr) : V → Prop where
  | ins {a dx : Addr} {fs : List (Str × V)} (h : H a = some (.ins C dx fs)) : Oth H C (.ref a)
  | int (i : Int) : Oth H C (.int i)
  | tup {a : Addr} {xs : List V} (h : H a = some (.tup xs)) : Oth H C (.ref a)
def rEqO (C : Addr) (sp : Sp) (E : XK) (neg : Bool) : R2 := fun x y H Q =>
  ∃ a dx fs, x = .ref a ∧ H a = some (.ins C dx fs) ∧ Oth H C y ∧ sp [.ref a, y] H (fun v H' => ∃ r, v = .bl r ∧ Q (.bl (if neg then !r else r)) H') E
theorem oth_type {pins : List (Addr × Obj)} {σ : L2.St} {H : Hp} {s : Shared} {y : V} {u : Value} (I : Inv X pins σ H s) (ry : RelV y u) (c : EqC X.K C f) (o : Oth H C y) :
    ∃ tb, PySem.W.Looks (model X.prog X.w) s.heap (typeOf u) tb ∧ PySem.W.notFirst X.K C tb = true := by
  cases o with
  | @ins a dx fs h =>
    obtain rfl : u = Value.ref a := ry
    obtain ⟨mA, O, rr, _, _, _⟩ := ins_get I.hok h
    obtain ⟨od, J, hl⟩ := O.look
    exact ⟨_, J.type, by unfold PySem.W.notFirst; simp⟩
  | int i =>
    obtain ⟨t, rfl⟩ := ry
    exact ⟨.type "int", .now, by unfold PySem.W.notFirst; rw [c.ni]; simp⟩
  | @tup a xs h =>
    obtain rfl : u = Value.ref a := ry
    obtain ⟨_, _, _, ob, h1, h2, _⟩ := (show ObjOk X.prog X.w H s.heap a (.tup xs) from I.hok a _ h)
    exact ⟨.type "tuple", h2 ▸ (PySem.W.Looks.ld h1).andThen .now, by unfold PySem.W.notFirst; rw [c.nt]; simp⟩
theorem op_eq_own (c : EqC X.K C f) (F : FnOk X.prog X.w X.K X.mg X.base CX k f fd ps sp) (hr : Room k X.A) (hb : Binds X.K fd ps []) (hx : Passes CX X E) : OpR X (compareOp .Eq) (rEqO C sp E false) := by
  intro pins s σ H x y v u Q I rx ry ⟨a, dx, fs, ex, ha, o, q⟩
  subst ex
  obtain rfl : v = Value.ref a := rx
  obtain ⟨mA, O, rr, _, _, _⟩ := ins_get I.hok ha
  obtain ⟨od, J, hl⟩ := O.look
  obtain ⟨m0, hF⟩ := I.fr
  obtain ⟨tb, lk, nf⟩ := oth_type I ry c o
  show wpAny _ _ (richCompare .Eq (.ref a) u) _ _ _
  refine cmp_K hr.units0 hF I.ok.mod.kin J lk nf c.eq c.fn (thn (run_sub F ⟨hr, rfl⟩ hb hx I (.cons (relR a) (.cons ry .nil)) q) fun r s' ⟨z, H', I', rz, b, ez, q'⟩ => ?_)
  subst ez
  obtain rfl : r = Value.bool b := rz
  exact ⟨_, H', I', relB b, q'⟩
theorem op_ne_own (c : EqC X.K C f) (F : FnOk X.prog X.w X.K X.mg X.base CX k f fd ps sp) (hr : Room (k + 1) X.A) (hb : Binds X.K fd ps []) (hx : Passes CX X E) : OpR X (compareOp .NotEq) (rEqO C sp E true) := by
  intro pins s σ H x y v u Q I rx ry ⟨a, dx, fs, ex, ha, o, q⟩
  subst ex
  obtain rfl : v = Value.ref a := rx
  obtain ⟨mA, O, rr, _, _, _⟩ := ins_get I.hok ha
  obtain ⟨od, J, hl⟩ := O.look
  obtain ⟨m0, hF⟩ := I.fr
  obtain ⟨tb, lk, nf⟩ := oth_type I ry c o
  show wpAny _ _ (richCompare .NotEq (.ref a) u) _ _ _
  refine ne_K (Room.units0 hr.in1) hr.units0 hF I.ok.mod.kin J lk nf c (thn (run_sub F (Sub.in1 ⟨hr, rfl⟩) hb hx I (.cons (relR a) (.cons ry .nil)) q) fun r s' ⟨z, H', I', rz, b, ez, q'⟩ => ?_)
  subst ez
  exact ⟨b, rz, _, H', I', relB (!b), q'⟩
end
end Tw

set_option Elab.async false
set_option linter.all false
set_option maxRecDepth 100000
set_option maxHeartbeats 4000000
namespace Tw
open PySem PySem.Spec PyProof.Rows L2
/-! enumerate(t), t a tuple -/
def enO (s : Shared) : Obj := { cls := .type "enumerate", data := .fields #[.none, .bool false, .ref s.heap.objs.size, rawInt 0, .none, .none] }
theorem enum_newT (t : Addr) (items : Array Value) :
    Meets (Builtin.«enumerate.__new__» ⟨[.type "enumerate", .ref t], []⟩) (fun _ R s => s.heap.IsTuple t items ∧
      R (.ok (.ret (.ref (s.heap.push (itTup t 0)).objs.size))) { s with heap := (s.heap.push (itTup t 0)).push (enO s) }) :=
  .of_wp fun prog w A R s h => by
    obtain ⟨hp, g, d, tk, os⟩ := s
    obtain ⟨h1, h⟩ := h
    have hsub := sub_enumerate
    have q1 : ∀ {A' : Around} {E : Value → Shared → Prop} {Q : Value → Shared → Prop}, Q (.ref hp.objs.size) ⟨hp.push (itTup t 0), g, d, tk, os⟩ → wpAny (model prog w) A' (pyIter (.ref t)) Q E ⟨hp, g, d, tk, os⟩ :=
      fun q => wpAny_pyIter_tuple (s := ⟨hp, g, d, tk, os⟩) h1 q
    wp_walk using q1
    refine wpAny_stack_any fun st => wpAny_pure ?_
    split
    · rename_i c _ _ _ _ _
      cases (c == Value.type "enumerate")
      · wp_walk using q1
        exact ⟨_, rfl, h⟩
      · wp_walk using q1
        exact ⟨_, rfl, h⟩
    · wp_walk using q1
      exact ⟨_, rfl, h⟩
section
variable {prog : Program} {w : World} {A : Around} {E : Value → Shared → Prop} {s : Shared}
theorem call_enumT {t : Addr} {items : Array Value} {Q : Value → Shared → Prop} (hT : s.heap.IsTuple t items)
    (h : ∀ h', IsEnum h' (s.heap.objs.size + 1) s.heap.objs.size 0 .none → h'.IsTupleIter s.heap.objs.size t 0 → h'.objs.size = s.heap.objs.size + 2 →
      (∀ b o, s.heap.get? b = some o → h'.get? b = some o) → Q (.ref (s.heap.objs.size + 1)) { s with heap := h' }) :
    wpAny (model prog w) A (call (.type "enumerate") [.ref t]) Q E s := by
  refine callType_new F.called_enumerate (by decide) (F.typeCall_enumerate_1 _) (F.newCall_enumerate_1 _) (fun obj => F.args_object_init_2 obj _) F.entry_enumerate_new (enum_newT t items) ⟨hT, ?_⟩
  have hz : (s.heap.push (itTup t 0)).objs.size = s.heap.objs.size + 1 := Heap.size_push ..
  show _ ∧ _
  rw [hz]
  have he : IsEnum ((s.heap.push (itTup t 0)).push (enO s)) (s.heap.objs.size + 1) s.heap.objs.size 0 .none := by
    have q := Heap.get?_push_size (s.heap.push (itTup t 0)) (o := enO s) rfl
    rw [hz] at q
    exact q
  have hi : ((s.heap.push (itTup t 0)).push (enO s)).IsTupleIter s.heap.objs.size t 0 := ⟨_, Heap.get?_push_of_some _ (Heap.get?_push_size _ rfl), rfl, rfl⟩
  exact ⟨⟨_, he, rfl⟩, h _ he hi (by rw [Heap.size_push, hz]) fun b o x => Heap.get?_push_of_some _ (Heap.get?_push_of_some _ x)⟩
end
def IteT (K : PySem.W.Frag) (a : Addr) : It :=
  ⟨fun i H => ∃ (xs : List V) (x : V), SqT K H a xs ∧ xs[i]? = some x, fun i H v H' => ∃ T x, v = .ref T ∧ H T = Option.none ∧ H' = upd H T (.tup [.int (i : Nat), x]) ∧ ∀ xs, SqT K H a xs → xs[i]? = some x, fun i H => ∃ xs : List V, SqT K H a xs ∧ xs.length = i⟩
theorem turn_enumT {P : Program} {w : World} {K : PySem.W.Frag} {elts : List Expr} {kk : Nat} {tpos : Pos} (a e it : Addr) :
    Turn P w K (.Tuple elts kk tpos) (IteT K a) [e, it] e (fun i h => (∃ old, IsEnum h e it ((i : Nat) : Int) old) ∧ h.IsTupleIter it a i ∧ e ≠ it) where
  mem := by simp
  obj := fun i h st b hb => by
    obtain ⟨⟨old, he⟩, ⟨o, ho, hc, hd⟩, _⟩ := st
    rcases (show b = e ∨ b = it by simpa using hb) with rfl | rfl
    · exact ⟨_, he, fun v q => nomatch q⟩
    · exact ⟨o, ho, fun v q => by rw [hd] at q; cases q⟩
  keep := fun i h h' st k => let ⟨⟨old, he⟩, hi, hne⟩ := st; ⟨⟨old, k e (by simp) _ he⟩, hi.at fun o q => k it (by simp) o q, hne⟩
  item := by
    intro X hP hw hK hc i pins s σ H E I hf st hg
    subst hP hw hK
    obtain ⟨⟨old, he⟩, hit, hne⟩ := st
    obtain ⟨xs, x, hq, hx⟩ := hg
    obtain ⟨its, rv, p, hz⟩ := I.tuple hq
    have hil : i < xs.length := (List.getElem?_eq_some_iff.mp hx).1
    have hlen := rv.length
    have hel : e < s.heap.objs.size := Heap.lt_size he
    have hitl : it < s.heap.objs.size := by obtain ⟨_, q, _⟩ := hit; exact Heap.lt_size q
    have hae : e ≠ a := fun z => by
      obtain ⟨oo, h1, h2, _⟩ := p
      rw [← z, he] at h1
      cases h1
      injection h2 with q
      exact absurd q (by decide)
    have hia : it ≠ a := fun z => by
      obtain ⟨oo, h1, h2, _⟩ := p
      obtain ⟨o2, h3, h4, _⟩ := hit
      rw [← z, h3] at h1
      cases h1
      rw [h4] at h2
      injection h2 with q
      exact absurd q (by decide)
    have D := Draws.tuple (prog := X.prog) (w := X.w) (A := X.A.in1) (I.ok.hd hc) it a hia.symm its.toArray
    refine wpAny_pyNext_enum_itemD D he ⟨hit, p⟩ (by rw [List.size_toArray]; omega) hne (by simp [hne, hae]) fun u h' tk hu ho hst hT hsz hk => ?_
    obtain ⟨u2, hu2, ru⟩ := rv.get hx
    obtain rfl : u = u2 := by
      rw [List.getElem?_toArray] at hu
      exact Option.some.inj (hu.symm.trans hu2)
    refine ⟨_, rfl, wpAny_letOwnedTupleGo_enum (s := { s with heap := h', toks := tk + 1 }) ho fun h'' he' sb => ?_⟩
    have hT2 : h''.get? s.heap.objs.size = some { cls := .type "tuple", data := .seq #[.int i tk, u] } := (sb.2 _ (Nat.ne_of_gt hel)).trans hT
    have new : ObjOk X.prog X.w (upd H s.heap.objs.size (.tup [.int (i : Nat), x])) h'' s.heap.objs.size (.tup [.int (i : Nat), x]) :=
      ⟨by show 2 ≤ sizeLine; decide, [.int i tk, u], .cons ⟨_, rfl⟩ (.cons ru .nil), ⟨_, hT2, rfl, _, rfl⟩⟩
    have I1 : Inv X pins σ (upd H s.heap.objs.size (.tup [.int (i : Nat), x])) { s with heap := h'', toks := tk + 1 } :=
      I.turnedNew (ch := [e, it]) (fun b ob hb q => (sb.2 b (fun z => hb (by simp [z]))).trans (hk b ob (fun z => hb (by simp [z])) (fun z => hb (by simp [z])) q)) hf (Nat.le_refl _) new
    refine ⟨.ref s.heap.objs.size, _, I1, rfl, ⟨_, x, rfl, I.hok.fresh (Nat.le_refl _), rfl, fun ys hy => by rw [I.tuple_inj hy hq]; exact hx⟩, ⟨⟨u, ?_⟩, hst.1.at fun o q => (sb.2 it (Ne.symm hne)).trans q, hne⟩, fun b hb => ?_⟩
    · rw [show ((i + 1 : Nat) : Int) = (i : Int) + 1 by omega]
      exact he'
    · have hb' : b < s.heap.objs.size := by
        rcases (show b = e ∨ b = it by simpa using hb) with rfl | rfl
        · exact hel
        · exact hitl
      rw [upd_ne (Nat.ne_of_lt hb')]
      exact (hf b hb).1
  done := by
    intro X hP hw hK hc i pins s σ H E I hf st hg
    subst hP hw hK
    obtain ⟨⟨old, he⟩, hit, hne⟩ := st
    obtain ⟨xs, hq, hx⟩ := hg
    obtain ⟨its, rv, p, hz⟩ := I.tuple hq
    obtain ⟨f0, f1, f2, f3, f4, f5⟩ := hf it (by simp)
    have hlen := rv.length
    have hae : e ≠ a := fun z => by
      obtain ⟨oo, h1, h2, _⟩ := p
      rw [← z, he] at h1
      cases h1
      injection h2 with q
      exact absurd q (by decide)
    have hia : it ≠ a := fun z => by
      obtain ⟨oo, h1, h2, _⟩ := p
      obtain ⟨o2, h3, h4, _⟩ := hit
      rw [← z, h3] at h1
      cases h1
      rw [h4] at h2
      injection h2 with q
      exact absurd q (by decide)
    have D := Draws.tuple (prog := X.prog) (w := X.w) (A := X.A.in1) (I.ok.hd hc) it a hia.symm its.toArray
    have en : its.toArray.size = i := by rw [List.size_toArray]; omega
    refine wpAny_pyNext_enum_endD D he (by rw [en]; exact ⟨hit, p⟩) fun h' eb => ⟨rfl, I.turned (t' := s.toks) (fun b o hb q => eb b o hb q) f0 f1 f3 f4 f5⟩
  self := fun A i s Q E st h => let ⟨⟨_, he⟩, _⟩ := st; wpAny_pyIter_enum he h
theorem walk_enumT {K : PySem.W.Frag} {a : Addr} {xs : List V} : Walk (IteT K a) xs.length (fun H => SqT K H a xs) (YPair (fun i => some (.int (i : Nat))) (fun i => xs[i]?)) := by
  refine ⟨fun i _ hi q => ⟨xs, xs[i], q, by simp [hi]⟩, fun _ q => ⟨xs, q, rfl⟩, fun i H v H' _ q y => ?_⟩
  obtain ⟨T, x, h1, h2, h3, h4⟩ := y
  exact ⟨T, .int (i : Nat), x, h1, h2, h3, rfl, h4 xs q⟩
/-- enumerate of a list or of a tuple -/
def iEnS (K : PySem.W.Frag) (ta : TA) : TI := fun σ H R => ta σ H fun vs H1 => ∃ a xs, vs = [.ref a] ∧ ((SqL K H1 a xs ∧ R (Ite K a) H1) ∨ (SqT K H1 a xs ∧ R (IteT K a) H1))
theorem pi_enS {X : Cx} {e : Expr} {ta : TA} {p pos tpos : Pos} {elts : List Expr} {kk : Nat} (hg : Gl X "enumerate") (hm : X.mg "enumerate" = Option.none) (ha : PA X [e] ta) (hs : starEach [e] X.env = [(false, eval e X.env)] := by rfl) :
    PI X (.Tuple elts kk tpos) (.Call (.Name "enumerate" p) [e] [] pos) (iEnS X.K ta) := by
  refine ⟨fun pins s σ H R I h => ?_⟩
  refine Call_ (ld_blt I hg hm boot_enumerate (PyProof.Rows.callWith_type1 (thn (ha.run pos pins s σ H _ I h) fun us s1 ⟨vs, H1, I1, r1, a, xs, ex, q1⟩ => ?_) hs rfl))
  subst ex
  obtain ⟨u, rfl, ru⟩ := r1.one
  obtain rfl : u = Value.ref a := ru
  have fr : ∀ b ∈ [s1.heap.objs.size + 1, s1.heap.objs.size], FpOk X pins H1 b := fun b hb => by
    have hle : s1.heap.objs.size ≤ b := by
      rcases (show b = s1.heap.objs.size + 1 ∨ b = s1.heap.objs.size by simpa using hb) with z | z <;> omega
    exact I1.fpOk hle (I1.hok.fresh hle)
  rcases q1 with ⟨hq, q⟩ | ⟨hq, q⟩
  · obtain ⟨its, rv, p', hz⟩ := I1.list hq
    exact call_enumerate_list p'.isList fun h' he hit hsz hk => wpAny_pyIter_enum he ⟨_, _, _, _, H1, rfl, I1.kept (t' := s1.toks) hk, turn_enum a (s1.heap.objs.size + 1) s1.heap.objs.size, ⟨⟨.none, he⟩, hit, Nat.succ_ne_self _⟩, fr, q⟩
  · obtain ⟨its, rv, p', hz⟩ := I1.tuple hq
    exact call_enumT p' fun h' he hit hsz hk => wpAny_pyIter_enum he ⟨_, _, _, _, H1, rfl, I1.kept (t' := s1.toks) hk, turn_enumT a (s1.heap.objs.size + 1) s1.heap.objs.size, ⟨⟨.none, he⟩, hit, Nat.succ_ne_self _⟩, fr, q⟩
end Tw

set_option Elab.async false
set_option linter.all false
set_option maxRecDepth 100000
set_option maxHeartbeats 2000000
/-! own rules: min(xs, key=lambda x: ys[x]), ys a name of the def -/
namespace Cl
open PySem PySem.Spec PyProof.Rows L2 LamX
section
variable {prog : Program} {w : World} {A : Around} {E : Value → Shared → Prop} {s : Shared}
/-- what the lambda's scope must say -/
structure LSc (scope : Scope) (x y : Str) : Prop where
  kind : scope.kind = .function
  co : scope.isCoroutine = false
  gen : scope.isGenerator = false
  nocell : ∀ z ∈ scope.names, z.2 ≠ .cell
  px : scope.names.lookup x = some .local
  fy : scope.names.lookup y = some .free
/-- lambda x: y[x], called with an int -/
theorem lam_ix {f l c' ck : Addr} {q x y : Str} {params : Arguments} {p1 p2 p3 : Pos} {scope : Scope} {cl : List (Str × Addr)} {pm ctv u : Value} {vs : List Value} {i : Int} {t : Tok} {Q : Value → Shared → Prop}
    (S : LSc scope x y) (hd : A.depth < recursionLimit) (hf : s.heap.get? f = some (PySem.W.kla_obj "<lambda>" q params (.Subscript (.Name y p1) (.Name x p2) p3) scope cl pm c' ctv))
    (hbind : ∀ v : Value, bindArgs (PySem.W.kla_fn "<lambda>" q params (.Subscript (.Name y p1) (.Name x p2) p3) scope cl pm (.ref c') ctv) ⟨[v], []⟩ = pure [(x, v)])
    (hcode : ∃ (oc : Obj) (us : Array Value) (tk : Tok), s.heap.get? c' = some oc ∧ oc.data = .fields us ∧ us[1]? = some (.str q tk)) (hlim : s.heap.NoLimit)
    (hck : cl.lookup y = some ck) (hcell : s.heap.IsCell ck (some (.ref l))) (hl : s.heap.IsList l vs.toArray) (h0 : 0 ≤ i) (h1 : i < 2 ^ 63) (hi : vs[i.toNat]? = some u)
    (hdx : (x == ("__debug__" : Str)) = false) (hdy : (y == ("__debug__" : Str)) = false) (hcy : (y == ("__classdict__" : Str)) = false)
    (h : ∀ h' tk, s.toks ≤ tk → (∀ b o, s.heap.get? b = some o → h'.get? b = some o) → Q u { s with heap := h', toks := tk }) : wpAny (model prog w) A (call (.ref f) [.int i t]) Q E s := by
  obtain ⟨oc, us, tq, hoc, hdc, hvc⟩ := hcode
  refine wpAny_call (PySem.W.kla_callFunE hd hf rfl S.co S.gen rfl ⟨c', oc, us, tq, rfl, hoc, hdc, hvc⟩ ?_)
  rw [hbind]
  refine wpAny_pure (wpAny_newFunctionEnv S.nocell (fun z hz => by rw [List.mem_singleton.mp hz]; exact S.px) (fun h₁ hns hsb => ⟨hlim.fresh _ hsb, ?_⟩) S.kind)
  have kp : ∀ b o, s.heap.get? b = some o → h₁.get? b = some o := fun b o e => hsb.extBut b o (Nat.ne_of_lt (Heap.lt_size e)) (Heap.get?_push_of_some _ e)
  refine PySem.W.kla_codeExpr ?_
  refine wpAny_Subscript_Name list_getitem_lookup ?_
  refine wpAny_Name (wpAny_loadName_free S.kind S.fy hck (hcell.keeps kp) ?_ hcy) hdy
  refine wpAny_Name (wpAny_loadName_local S.kind S.px hns (v := .int i t) ?_ ?_) hdx
  · simp [List.lookup]
  · have hl' : h₁.IsList l vs.toArray := hl.at fun o e => kp _ _ e
    refine ⟨hl'.typeIs, wpAny_getItem_list hl' h0 h1 (by simpa using hi) ?_⟩
    exact h h₁ _ (by show s.toks ≤ s.toks + _; omega) kp
/-- what a lambda x: y[x] is, and what it reads -/
structure LamAt (h : Heap) (f : Addr) (x y : Str) (q : Str) (params : Arguments) (p1 p2 p3 : Pos) (scope : Scope) (cl : List (Str × Addr)) (pm ctv : Value) (c' ck l : Addr) (us : List Value) : Prop where
  fn : h.get? f = some (PySem.W.kla_obj "<lambda>" q params (.Subscript (.Name y p1) (.Name x p2) p3) scope cl pm c' ctv)
  code : ∃ (oc : Obj) (us : Array Value) (tk : Tok), h.get? c' = some oc ∧ oc.data = .fields us ∧ us[1]? = some (.str q tk)
  lim : h.NoLimit
  hck : cl.lookup y = some ck
  cell : h.IsCell ck (some (.ref l))
  lst : h.IsList l us.toArray
theorem LamAt.keeps {h h' : Heap} {f : Addr} {x y : Str} {q : Str} {params : Arguments} {p1 p2 p3 : Pos} {scope : Scope} {cl : List (Str × Addr)} {pm ctv : Value} {c' ck l : Addr} {us : List Value}
    (L : LamAt h f x y q params p1 p2 p3 scope cl pm ctv c' ck l us) (k : ∀ b o, h.get? b = some o → h'.get? b = some o) : LamAt h' f x y q params p1 p2 p3 scope cl pm ctv c' ck l us :=
  ⟨k _ _ L.fn, let ⟨oc, us, tk, a, b, c⟩ := L.code; ⟨oc, us, tk, k _ _ a, b, c⟩, L.lim.keeps k, L.hck, L.cell.keeps k, L.lst.at fun o e => k _ _ e⟩
theorem min_lam {f a l c' ck : Addr} {q x y : Str} {params : Arguments} {p1 p2 p3 : Pos} {scope : Scope} {cl : List (Str × Addr)} {pm ctv : Value} {cs us : List Value} {ns : Nat → Int} {kf : Nat → Int} {Q : Value → Shared → Prop}
    (hh : A.handled = none) (S : LSc scope x y) (hd : A.depth < recursionLimit) (L : LamAt s.heap f x y q params p1 p2 p3 scope cl pm ctv c' ck l us)
    (hbind : ∀ v : Value, bindArgs (PySem.W.kla_fn "<lambda>" q params (.Subscript (.Name y p1) (.Name x p2) p3) scope cl pm (.ref c') ctv) ⟨[v], []⟩ = pure [(x, v)])
    (hdx : (x == ("__debug__" : Str)) = false) (hdy : (y == ("__debug__" : Str)) = false) (hcy : (y == ("__classdict__" : Str)) = false)
    (ht : s.heap.IsTuple a cs.toArray) (hc : ∀ i, i < cs.length → ∃ t, cs[i]? = some (.int (ns i) t)) (hne : 0 < cs.length)
    (hk : ∀ i, i < cs.length → 0 ≤ ns i ∧ ns i < 2 ^ 63 ∧ ∃ t, us[(ns i).toNat]? = some (.int (kf i) t))
    (h : ∀ v h' tk, cs[argBest (fun i j => decide (kf i < kf j)) (cs.length - 1)]? = some v → (∀ b o, s.heap.get? b = some o → h'.get? b = some o) → Q v { s with heap := h', toks := tk }) :
    wpAny (model prog w) A (call (.builtin "min") [.ref a] [(Str.ofString "key", .ref f)]) Q E s := by
  have hd1 : A.in1.depth < recursionLimit := hd
  refine call_min_walkK (PySem.W.iter_tupleW (A := A.in1) hh ht fun s₂ e2 W st hfp hfr kp2 => ?_)
  have sz2 : s.heap.objs.size < s₂.heap.objs.size := hfp _ List.mem_cons_self
  have old : ∀ {s' : Shared}, Moved [s₂.heap.objs.size, s.heap.objs.size] (fun a b => b = a) s₂ s' → ∀ b o, s.heap.get? b = some o → s'.heap.get? b = some o := fun {s'} m b o e => by
    have lt := Heap.lt_size e
    refine m.heap b o (fun hm => ?_) (kp2 b o e)
    rcases List.mem_cons.mp hm with z | hm
    · rw [z] at lt
      exact Nat.lt_irrefl _ (Nat.lt_trans lt sz2)
    · rw [List.mem_singleton.mp hm] at lt
      exact Nat.lt_irrefl _ lt
  have szc : cs.toArray.size = cs.length := by simp
  refine ⟨s.heap.objs.size, [s.heap.objs.size, a], [s.heap.objs.size], (fun a b => b = a), cs.toArray.size, _, _, fun s' => Moved [s₂.heap.objs.size, s.heap.objs.size] (fun a b => b = a) s₂ s', fun i k _ => ∃ t, k = .int (kf i) t, fun i j => decide (kf i < kf j), rfl, W, st, hfp, by rw [szc]; exact hne, ⟨?_, ?_, ?_, ?_⟩, Moved.refl fun _ => rfl, ?_⟩
  · exact fun s1 s' J m => J.trans (fun _ _ _ h1 h2 => h2.trans h1) m
  · exact fun i k s1 s' v _ => v
  · intro i v s1 o Q' E' hi hP J stI hS cont
    rw [szc] at hi
    obtain ⟨t, ec⟩ := hc i hi
    have ev : v = .int (ns i) t := by
      have hP' : cs[i]? = some v := by simpa using hP
      rw [ec] at hP'
      exact (Option.some.inj hP').symm
    subst ev
    obtain ⟨h0, h1, tk, eu⟩ := hk i hi
    have L1 := L.keeps (old J)
    refine lam_ix S hd1 L1.fn hbind L1.code L1.lim L1.hck L1.cell L1.lst h0 h1 eu hdx hdy hcy fun h' tk' hle kp => ?_
    exact cont _ _ (J.then_heap hle fun b o _ e => kp b o e) (W.frame _ s1 h' tk' stI hle fun b _ o e => kp b o e) (kp _ _ hS) ⟨_, rfl⟩ fun j k' z => z
  · intro i j ki kj s1 Q' E' J vi vj q
    exact CmpOf.ints_lt (prog := prog) (w := w) (A := A.in1) (P := fun i v => ∃ t, v = .int (kf i) t) kf (fun i v h => h) i j ki kj s1 Q' E' vi vj q
  · intro v s' hP J
    rw [szc] at hP
    have hP' : cs[argBest (fun i j => decide (kf i < kf j)) (cs.length - 1)]? = some v := by simpa using hP
    have e : s' = { s with heap := s'.heap, toks := s'.toks } := by
      obtain ⟨hp, g, d, tk, os⟩ := s'
      subst e2
      have h1 : g = s.gens := J.gens
      have h2 : d = s.drawn := J.drawn
      have h3 : os = s.os := J.os
      subst h1 h2 h3
      rfl
    rw [e]
    exact h v s'.heap s'.toks hP' (old J)
end
/-- the first of the least -/
def FirstLeast (kf : Nat → Int) (n j : Nat) : Prop := j < n ∧ (∀ i, i < n → kf j ≤ kf i) ∧ ∀ i, i < j → kf j < kf i
theorem best_is (kf : Nat → Int) : ∀ n, FirstLeast kf (n + 1) (argBest (fun i j => decide (kf i < kf j)) n)
  | 0 => ⟨Nat.zero_lt_one, fun i h => by rw [Nat.lt_one_iff.mp h]; exact Int.le_refl _, fun i h => nomatch h⟩
  | n + 1 => by
    obtain ⟨a, b, c⟩ := best_is kf n
    show FirstLeast kf (n + 2) (if decide (kf (n + 1) < kf (argBest (fun i j => decide (kf i < kf j)) n)) = true then n + 1 else argBest (fun i j => decide (kf i < kf j)) n)
    by_cases h : kf (n + 1) < kf (argBest (fun i j => decide (kf i < kf j)) n)
    · rw [if_pos (decide_eq_true h)]
      refine ⟨by omega, fun i hi => ?_, fun i hi => ?_⟩
      · by_cases e : i = n + 1
        · rw [e]
          exact Int.le_refl _
        · have := b i (by omega)
          omega
      · have := b i (by omega)
        omega
    · rw [if_neg (fun z => h (of_decide_eq_true z))]
      refine ⟨by omega, fun i hi => ?_, c⟩
      by_cases e : i = n + 1
      · rw [e]
        omega
      · exact b i (by omega)
theorem first_one {kf : Nat → Int} {n i j : Nat} (a : FirstLeast kf n i) (b : FirstLeast kf n j) : i = j := by
  rcases Nat.lt_trichotomy i j with h | h | h
  · have h1 := b.2.2 i h
    have h2 := a.2.1 j b.1
    omega
  · exact h
  · have h1 := a.2.2 j h
    have h2 := b.2.1 i a.1
    omega
/-- the item of ns whose key in ks is the least, the first such one -/
def LeastAt (ks ns : List Int) (m : Int) : Prop := ∃ j, FirstLeast (fun i => ks.getD (ns.getD i 0).toNat 0) ns.length j ∧ m = ns.getD j 0
theorem _root_.LamX.ExtN.rd {H H' : Hp} (e : ExtN H H') {a : Addr} {u : HO} (n : ∀ ps, u ≠ .tbl ps) (h : Rd H a u) : Rd H' a u := by
  rcases h with h | ⟨o, h⟩
  · exact .inl (e _ _ h n)
  · exact .inr ⟨o, e _ _ h fun ps z => nomatch z⟩
theorem _root_.LamX.ExtN.sqL {K : PySem.W.Frag} {H H' : Hp} (e : ExtN H H') {a : Addr} {xs : List V} (h : SqL K H a xs) : SqL K H' a xs := h.elim (fun h => .inl (e.rd (fun ps z => nomatch z) h)) .inr
theorem _root_.LamX.ExtN.sqT {K : PySem.W.Frag} {H H' : Hp} (e : ExtN H H') {a : Addr} {xs : List V} (h : SqT K H a xs) : SqT K H' a xs := h.elim (fun h => .inl (e.rd (fun ps z => nomatch z) h)) .inr
section
variable {X : Cx}
def tMinLam (K : PySem.W.Frag) (T : List (Addr × Str)) (j : Nat) (te : TE) : TE := fun σ H Q => te σ H fun v H1 => ∃ (a l : Addr) (ns ks : List Int), v = .ref a ∧ SqT K H1 a (ns.map V.int) ∧ σ[j]? = some (some (.ref l)) ∧ SqL K H1 l (ks.map V.int) ∧ 0 < ns.length ∧ (∀ n ∈ ns, 0 ≤ n ∧ n < ks.length) ∧
  Tabs T H1 ∧ ∀ (m : Int) (H2 : Hp), ExtN H1 H2 → Tabs T H2 → LeastAt ks ns m → Q (.int m) H2
/-- min(e, key=lambda x: y[x]), y a name of the def that it shares with the lambda -/
theorem pe_minlam {T : List (Addr × Str)} {c P : Addr} {p p1 p2 p3 lpos kpos pos : Pos} {e : Expr} {te : TE} {x y : Str} {j : Nat} {params : Arguments} {scope : Scope}
    (hg : Gl X "min") (hm : X.mg "min" = none) (he : PE X e te) (hd : X.A.depth < recursionLimit) (hh : X.A.handled = none) (TB : TabB X.base X.mg c P) (hcode : X.env.code = .ref c) (hmT : (P, X.env.qual ++ "<lambda>") ∈ T)
    (hu : ∀ q ∈ T, q.1 = P → q.2 = X.env.qual ++ "<lambda>") (S : LSc scope x y) (hfy : X.env.scope.names.lookup y = some .cell) (hfr : ∀ z ∈ scope.names, z.2 = .free → z.1 = y) (hN : X.N[j]? = some y) (hdef : defaultsOf params X.env = ([], []))
    (hbind : ∀ (q : Str) (cl : List (Str × Addr)) (pm cv ctv v : Value), bindArgs (PySem.W.kla_fn "<lambda>" q params (.Subscript (.Name y p1) (.Name x p2) p3) scope cl pm cv ctv) ⟨[v], []⟩ = pure [(x, v)])
    (hs : starEach [e] X.env = (false, eval e X.env) :: starEach [] X.env := by rfl)
    (hdx : (x == ("__debug__" : Str)) = false := by decide) (hdy : (y == ("__debug__" : Str)) = false := by decide) (hcy : (y == ("__classdict__" : Str)) = false := by decide) :
    PE X (.Call (.Name "min" p) [e] [⟨some "key", .Lambda params (.Subscript (.Name y p1) (.Name x p2) p3) scope lpos, kpos⟩] pos) (tMinLam X.K T j te) := by
  refine ⟨fun pins s σ H Q I h => ?_⟩
  have hfree : ∀ z ∈ scope.names, z.2 = .free → ∃ c, X.env.cells.lookup z.1 = some c := fun z hz e => I.ok.has _ (.inl (by rw [hfr z hz e]; exact hfy))
  refine wpAny_Call_Name_kw (ld_blt I hg hm (u := .builtin "min") (by decide +kernel) ?_)
  refine PyProof.Rows.callWith_kw ?_ (by rw [hs]; rfl) (by rw [hs]; rfl) (by rfl) (by rfl)
  rw [hs]
  show wpAny _ _ (spliced ((false, eval e X.env) :: backTo pos (starEach [] X.env))) _ _ s
  refine Calls.spliced_cons (thn (he.run pins s σ H _ I h) fun u s1 ⟨v, H1, I1, r1, a, l, ns, ks, ev, ht, hσ, hl, hne, hin, hT, q⟩ => Calls.spliced_nil ?_)
  subst ev
  obtain rfl : u = Value.ref a := r1
  show wpAny _ _ (evalAll ((do let v ← eval (.Lambda params (.Subscript (.Name y p1) (.Name x p2) p3) scope lpos) X.env; standAt pos; pure v) :: [])) _ _ s1
  refine wpAny_evalAll_cons (wpAny_bind (lam_make2 I1 TB hcode hmT hu hT hdef hfree fun f c' pm ctv H2 s2 I2 eN T2 hf hfn hff hco => wpAny_bind (wpAny_standAt (wpAny_pure (wpAny_evalAll_nil ?_)))))
  show wpAny _ _ (call (.builtin "min") [.ref a] [(Str.ofString "key", .ref f)]) _ _ s2
  obtain ⟨cs, rc, tc, _⟩ := I2.tuple (eN.sqT ht)
  obtain ⟨us, ru, pl, hz2⟩ := I2.list (eN.sqL hl)
  obtain ⟨m, _, look⟩ := I2.loc
  obtain ⟨u0, r0, lk⟩ := look j y _ hN hσ (.inr (.inl hfy))
  obtain rfl : u0 = Value.ref l := r0
  have cellAt : ∃ ck, X.env.cells.lookup y = some ck ∧ s2.heap.IsCell ck (some (.ref l)) := by
    rcases lk with ⟨k, _⟩ | ⟨_, ck, e1, e2⟩
    · rw [show X.env.kindOf y = some .cell from hfy] at k
      cases k
    · exact ⟨ck, e1, e2⟩
  obtain ⟨ck, eck, hcell⟩ := cellAt
  obtain ⟨⟨oc, vs, tk, o1, o2, o3⟩, _, _⟩ := I2.hok c' _ hco
  have lc : cs.length = ns.length := by rw [← rc.length, List.length_map]
  have lu : us.length = ks.length := by rw [← ru.length, List.length_map]
  have nsAt : ∀ i, i < ns.length → ∃ t, cs[i]? = some (.int (ns.getD i 0) t) := fun i hi => by
    obtain ⟨z, ez, rz⟩ := rc.get (i := i) (x := V.int (ns.getD i 0)) (by rw [List.getElem?_map, List.getD_eq_getElem?_getD, List.getElem?_eq_getElem hi]; rfl)
    obtain ⟨t, rfl⟩ := rz
    exact ⟨t, ez⟩
  refine min_lam (ns := fun i => ns.getD i 0) (kf := fun i => ks.getD (ns.getD i 0).toNat 0) hh S hd ⟨hf, ⟨oc, vs, tk, o1, o2, o3⟩, I2.nolimit, NdefX.clo_has hfree (PySem.mem_of_lookup S.fy) eck, hcell, pl.isList⟩ (fun v => hbind _ _ _ _ _ v) hdx hdy hcy tc (fun i hi => nsAt i (by omega)) (by omega)
    (fun i hi => ?_) fun v h' tk2 hv kp => ?_
  · have hi' : i < ns.length := by omega
    have hmem : ns.getD i 0 ∈ ns := by rw [List.getD_eq_getElem?_getD, List.getElem?_eq_getElem hi']; exact List.getElem_mem hi'
    obtain ⟨b0, b1⟩ := hin _ hmem
    have hs63 := line63
    rw [List.length_map] at hz2
    have hk' : (ns.getD i 0).toNat < ks.length := by omega
    obtain ⟨z, ez, rz⟩ := ru.get (i := (ns.getD i 0).toNat) (x := V.int (ks.getD (ns.getD i 0).toNat 0)) (by rw [List.getElem?_map, List.getD_eq_getElem?_getD (l := ks), List.getElem?_eq_getElem hk']; rfl)
    obtain ⟨t, rfl⟩ := rz
    exact ⟨b0, by omega, t, ez⟩
  · obtain ⟨n, en⟩ : ∃ n, ns.length = n + 1 := ⟨ns.length - 1, by omega⟩
    have fl := best_is (fun i => ks.getD (ns.getD i 0).toNat 0) n
    rw [← en] at fl
    rw [lc, show ns.length - 1 = n by omega] at hv
    obtain ⟨t, et⟩ := nsAt _ fl.1
    rw [et] at hv
    cases hv
    exact ⟨.int _, H2, I2.kept kp, ⟨t, rfl⟩, q _ H2 eN T2 ⟨_, fl, rfl⟩⟩
end
end Cl

set_option Elab.async false
set_option linter.all false
set_option maxRecDepth 100000
set_option maxHeartbeats 2000000
/-! own rule: list(o), o an instance with an __iter__ over its tuple and a __len__ -/
namespace Tw
open PySem PySem.Spec PyProof.Rows L2
def rListO (K : PySem.W.Frag) (C : Addr) (fld : Str) (sp : Sp) (E : XK) : List V → Hp → VK → Prop := fun xs H Q => ∃ (a dx : Addr) (fs : List (Str × V)) (t : Addr) (zs : List V), xs = [.ref a] ∧ H a = some (.ins C dx fs) ∧ fs.lookup fld = some (.ref t) ∧ SqT K H t zs ∧ zs.length ≤ 900 ∧
  sp [.ref a] H (fun v H' => ∃ n : Nat, v = .int n ∧ n < 1000 ∧ H' = H) E ∧ ∀ q, H q = none → Q (.ref q) (upd H q (.lst zs))
theorem ty_ne {a b : String} (h : Value.type a = Value.type b) (n : decide (a = b) = false) : False := by
  injection h with h
  exact of_decide_eq_false n h
theorem if_yes {α : Type} {M : Model} {A : Around} {E : Value → Shared → Prop} {s : Shared} {c : Bool} {a b : Sem α} {Q : α → Shared → Prop} (hc : c = true) (h : wpAny M A a Q E s) : wpAny M A (if c = true then a else b) Q E s := by
  rw [hc, if_pos rfl]
  exact h
section
variable {X : Cx} {k : Nat} {f : Addr} {fd : FuncData} {ps : List Str} {sp : Sp} {A1 : Around} {pins : List (Addr × Obj)} {σ : L2.St} {H : Hp} {s : Shared} {Q : VK}
/-- a def that raises nothing, called within a built-in -/
theorem run_sub0 {us : List Value} {vs : List V} {R : Value → Shared → Prop} (F : FnOk X.prog X.w X.K X.mg X.base CX0 k f fd ps sp) (sb : Sub X k A1) (hb : L2.Binds X.K fd ps []) (I : Inv X pins σ H s) (r : Vals vs us) (h : sp vs H Q E0) :
    wpAny (model X.prog X.w) A1 (call (.ref f) us) (EP X pins σ Q) R s := by
  have hl : us.length = ps.length := by rw [← r.length]; exact F.len _ _ _ _ h
  have hb1 : BindsTo s fd ⟨us, []⟩ (ps.zip us) := by
    have z := hb s us I.kIn (by rw [List.append_nil]; exact hl)
    rw [List.append_nil] at z
    exact z
  refine wpAny_call (codeAny_mono (F.run A1 X.stack s H ⟨us, []⟩ us vs Q E0 sb.room (Sub.env0 sb I) hb1 r h) fun z s' hq => ?_)
  match z, hq with
  | .error e, hq => exact False.elim hq
  | .ok (.ret u), hq => exact I.after hq
  | .ok .next, hq => exact False.elim hq
  | .ok .brk, hq => exact False.elim hq
  | .ok .cont, hq => exact False.elim hq
end
section
variable {X : Cx} {kI k : Nat} {fi fl C : Addr} {fdI fdL : FuncData} {psL : List Str} {spL : Sp} {fld : Str}
theorem call_listO (hdI : Dn X.K C "__iter__" fi) (FI : FnIt X.prog X.w X.K X.mg X.base k fi fdI ["self"] (spIter X.K C fld)) (bI : L2.Binds X.K fdI ["self"] [])
    (hdL : Dn X.K C "__len__" fl) (FL : FnOk X.prog X.w X.K X.mg X.base CX0 k fl fdL psL spL) (bL : L2.Binds X.K fdL psL []) (hr : Room (k + 3) X.A) : CallR X (.type "list") (rListO X.K C fld spL E0) := by
  intro pins s σ H xs us Q I rv h
  obtain ⟨a, dx, fs, t, zs, rfl, ha, hf, ht, hz, hlen, q⟩ := h
  obtain ⟨u, rfl, ru⟩ := rv.one
  cases ru
  have sb1 : Sub X (k + 1) X.A.in1.in1 := Sub.in1 (Sub.in1 (⟨hr, rfl⟩ : Sub X (k + 3) X.A))
  have sb : Sub X k X.A.in1.in1 := sb1.mono (Nat.le_succ k)
  refine callType_codes (Q₁ := fun obj s₁ => obj = .ref s.heap.objs.size ∧ s₁ = { s with heap := s.heap.push { cls := .type "list", data := .seq #[] } }) PySem.F.called_list (PySem.F.typeCall_list_1 _) PySem.F.entry_list_init
    (code_list_new _ ⟨rfl, rfl⟩) fun obj s₁ h₁ => ?_
  obtain ⟨rfl, rfl⟩ := h₁
  have hS : (s.heap.push { cls := .type "list", data := .seq #[] }).get? s.heap.objs.size = some { cls := .type "list", data := .seq #[] } := Heap.get?_push_size _ rfl
  refine ⟨⟨_, hS, rfl⟩, PySem.F.args_list_init_2 _ _, ?_⟩
  have nS : H s.heap.objs.size = none := I.hok.fresh (Nat.le_refl _)
  have fS : FpOk X pins H s.heap.objs.size := I.fpOk (Nat.le_refl _) nS
  have I1 : Inv X pins σ H { s with heap := s.heap.push { cls := .type "list", data := .seq #[] } } := I.kept (t' := s.toks) fun b u e => Heap.get?_push_of_some _ e
  show wpAny _ _ (do let old ← Builtin.List.listItems (.ref s.heap.objs.size); Builtin.List.listUpdate (.ref s.heap.objs.size) (fun _ => #[]); letGo old.toList.reverse; Builtin.List.listExtendWith (.ref s.heap.objs.size) (.ref a) .none) _ _ _
  refine wpAny_bind ?_
  unfold Builtin.List.listItems
  refine wpAny_bind (wpAny_seqItems hS rfl (wpAny_pure ?_))
  show wpAny _ _ (updateSeq s.heap.objs.size (fun _ => #[]) >>= fun _ => letGo (#[] : Array Value).toList.reverse >>= fun _ => Builtin.List.listExtendWith (.ref s.heap.objs.size) (.ref a) .none) _ _ _
  refine wpAny_bind (wpAny_updateSeq hS rfl ?_)
  have hS2 := Heap.get?_update_self (h := s.heap.push { cls := .type "list", data := .seq #[] }) (f := Obj.mapSeq fun _ => #[]) hS rfl
  have I2 := I1.turnedL (h' := (s.heap.push { cls := .type "list", data := .seq #[] }).update s.heap.objs.size (Obj.mapSeq fun _ => #[])) (t' := s.toks) (ch := [s.heap.objs.size]) (fun b o hb e => (Heap.get?_update_other _ _ (fun z => hb (by simp [z]))).trans e) (fun b hb => by rw [List.mem_singleton.mp hb]; exact fS)
  refine wpAny_bind (wpAny_letGo ?_)
  generalize hSa : s.heap.objs.size = S at *
  generalize hh2 : (s.heap.push { cls := .type "list", data := .seq #[] }).update S (Obj.mapSeq fun _ => #[]) = h2 at *
  have szS : S < h2.objs.size := Heap.lt_size hS2
  obtain ⟨mA, O, rr, _, _, _⟩ := ins_get I2.hok ha
  obtain ⟨od, J, hl⟩ := O.look
  obtain ⟨m0, hF⟩ := I2.fr
  have hne : S ≠ a := fun z => by rw [← z] at ha; rw [nS] at ha; cases ha
  have h1 : Builtin.List.listSameRef (.ref S) (.ref a) = false := by simp [Builtin.List.listSameRef, hne]
  unfold Builtin.List.listExtendWith
  refine wpAny_bind (J.type.here ?_)
  have n2 : (Value.ref C == Value.type "list") = false := rfl
  have n3 : (Value.ref C == Value.type "tuple") = false := rfl
  simp only [h1, n2, n3, Bool.or_false, Bool.false_eq_true, if_false]
  have I2p := I2.pinned (fp := [S]) (fun b hb => by rw [List.mem_singleton.mp hb]; exact fS) (fun b hb => by rw [List.mem_singleton.mp hb]; exact ⟨_, hS2, fun v z => nomatch z⟩)
  refine wpAny_bind (PySem.W.owit_iter hF I2.ok.mod.kin J hdI.at_ hdI.fn (thn (run_iter FI sb bI I2p ha hf ht) fun r s3 ⟨it, er, hn, h0, I3⟩ => ?_))
  subst er
  have e2 : upd H it (ItT t it 0) it = some (ItT t it 0) := upd_same
  have g : s3.heap.get? it = some (itTup t 0) := (I3.hok it _ e2).1
  have hS3 := (I3.pin (S, _) (List.mem_append_right _ (List.mem_append_right _ (mem_pinsAt (List.mem_singleton.mpr rfl) hS2)))).1
  have hTy : s3.TypeIs (.ref it) "tuple_iterator" := ⟨_, g, rfl⟩
  have fIt := ItX.inv_fp I3 e2 (Nat.le_trans I2.sz hn)
  have I4 := ItX.inv_drop I3 e2
  rw [ItX.dropH_upd h0] at I4 fIt
  unfold PySem.W.OwitIt
  refine wpAny_specialOf (name := Str.ofString "__next__") hTy PySem.F.slot_tuple_iterator_next.lookup ?_
  have I5 := I4.pinned (fp := [it]) (fun b hb => by rw [List.mem_singleton.mp hb]; exact fIt) (fun b hb => by rw [List.mem_singleton.mp hb]; exact ⟨_, g, fun v z => nomatch z⟩)
  show wpAny _ X.A.in1.in1 (holding [.ref it] (Builtin.List.listLengthHint (.ref a)) >>= _) _ _ s3
  obtain ⟨mA5, O5, rr5, _, _, _⟩ := ins_get I5.hok ha
  obtain ⟨od5, J5, hl5⟩ := O5.look
  obtain ⟨m5, hF5⟩ := I5.fr
  refine wpAny_bind (wpAny_holding ?_)
  have lenOk : ∀ {R : Value → Shared → Prop}, wpAny (model X.prog X.w) X.A.in1.in1 (call (.builtin "len") [.ref a]) (fun r s' => ∃ (n : Nat) (tk : Tok), r = .int n tk ∧ n < 1000 ∧ Inv X (pins ++ pinsAt [S] h2 ++ pinsAt [it] s3.heap) σ H s') R s3 := by
    intro R
    refine PySem.W.len_K hF5 I5.ok.mod.kin J5 hdL.at_ hdL.fn (thn (run_sub0 FL (Sub.in1 (Sub.mono sb1 (Nat.le_refl _))) bL I5 (.cons (relR a) .nil) hlen) fun r s' ⟨z, H', I', rz, n, ez, hn, eH⟩ => ?_)
    subst ez
    rw [eH] at I'
    obtain ⟨tk, rfl⟩ := rz
    exact ⟨⟨by omega, by omega⟩, n, _, rfl, hn, I'.tok _⟩
  unfold Builtin.List.listLengthHint
  refine wpAny_bind (wpAny_bind (J5.type.here ((PySem.W.looks_findIn I5.kIn hdL.at_).here ?_)))
  refine PySem.W.KFB.if_not rfl ?_
  refine if_yes rfl ?_
  refine wpAny_bind (wpAny_rule ?_)
  refine wpAny_bind (wpAny_attempt (thn lenOk fun r s6 ⟨n, tk, er, hn6, I6⟩ => ?_))
  subst er
  refine wpAny_bind (wpAny_of_eq (a := some ((n : Nat) : Int)) (by rfl) ?_)
  refine PySem.W.KFB.if_not (by unfold Builtin.List.listTooLong; exact decide_eq_false (by rw [sizeLine_eq, Int.toNat_natCast]; omega)) ?_
  refine wpAny_pure ?_
  -- the loop
  have I7 : Inv X pins σ H s6 := I6.unpinned.unpinned
  have hS6 := (I6.pin (S, _) (List.mem_append_right _ (List.mem_append_left _ (List.mem_append_right _ (mem_pinsAt (List.mem_singleton.mpr rfl) hS2))))).1
  have g6 := (I6.pin (it, _) (List.mem_append_right _ (List.mem_append_right _ (mem_pinsAt (List.mem_singleton.mpr rfl) g)))).1
  have fIt2 : FpOk X pins H it := ⟨fIt.1, fIt.2.1, fIt.2.2.1, fIt.2.2.2.1, fIt.2.2.2.2.1, fun p hp => fIt.2.2.2.2.2 p ((List.mem_append.mp hp).elim (fun z => List.mem_append_left _ z) fun z => List.mem_append_right _ (List.mem_append_left _ z))⟩
  have Sne' : S ≠ it := fun z => by
    rw [z, g6] at hS6
    exact ty_ne (show Value.type "tuple_iterator" = Value.type "list" from congrArg Obj.cls (Option.some.inj hS6)) (by decide +kernel)
  have loop : ∀ (s7 : Shared) (c : Nat), Inv X pins σ H s7 → s7.heap.get? S = some { cls := .type "list", data := .seq #[] c } → s7.heap.get? it = some (itTup t 0) →
      codeAny (model X.prog X.w) X.A.in1 (.builtin "list.extend.loop" ⟨[.ref S, .ref it, .none], []⟩) (wants (fun r s₂ => r = .none ∧ EP X pins σ Q (.ref S) s₂) X.xe) s7 := by
    intro s7 c J7 hS7 g7
    obtain ⟨its, rz, pl, hz2⟩ := J7.tuple ht
    have tne : t ≠ it := fun z => by
      obtain ⟨o, e1, e2, _⟩ := pl
      rw [z, g7] at e1
      rw [← Option.some.inj e1] at e2
      exact ty_ne (show Value.type "tuple_iterator" = Value.type "tuple" from e2) (by decide +kernel)
    have Sne : S ≠ it := fun z => by
      rw [z, g7] at hS7
      exact ty_ne (show Value.type "tuple_iterator" = Value.type "list" from congrArg Obj.cls (Option.some.inj hS7)) (by decide +kernel)
    have St : S ≠ t := fun z => by
      obtain ⟨o, e1, e2, _⟩ := pl
      rw [← z, hS7] at e1
      rw [← Option.some.inj e1] at e2
      exact ty_ne (show Value.type "list" = Value.type "tuple" from e2) (by decide +kernel)
    have li : its.length = zs.length := rz.length.symm
    have W := (PySem.Walks.tuple (prog := X.prog) (w := X.w) (A := X.A.in1.in1) sb1.room.hd it t tne its.toArray).toS
    refine PySem.codeAny_extend_loopS (A := X.A.in1) W (by rw [List.size_toArray, sizeLine_eq]; omega) S (fun z => ?_) .none _ 0 s7 #[] c rfl (Nat.zero_le _) ⟨⟨_, g7, rfl, rfl⟩, pl⟩ hS7 (PySem.ItemsOf.nil _) fun s8 acc c8 m hS8 hit => ?_
    · rcases List.mem_cons.mp z with z | z
      · exact Sne z
      · exact St (List.mem_singleton.mp z)
    have eacc : acc = its.toArray := by
      refine Array.ext_getElem? fun j => ?_
      by_cases hj : j < acc.size
      · rw [Array.getElem?_eq_getElem hj]
        exact (hit.2 j _ (Array.getElem?_eq_getElem hj)).symm
      · rw [Array.getElem?_eq_none (by omega), Array.getElem?_eq_none (by rw [← hit.1]; omega)]
    subst eacc
    have J8 := J7.turnedL (h' := s8.heap) (t' := s8.toks) (ch := [S, it]) (fun b o hb e => m.heap b o hb e) (fun b hb => by
      rcases List.mem_cons.mp hb with z | z
      · rw [z]; exact fS
      · rw [List.mem_singleton.mp z]; exact fIt2)
    have J9 := J8.take (h' := s8.heap) (t' := s8.toks) (it := S) (o := .lst zs) (fun _ _ _ e => e) fS ⟨by rw [sizeLine_eq]; omega, its, c8, rz, hS8⟩
    have e8 : s8 = { s7 with heap := s8.heap, toks := s8.toks } := Moved.eq_with m
    rw [e8]
    exact ⟨rfl, .ref S, _, J9, rfl, q S nS⟩
  refine wpAny_ite_split (fun _ => ?_) (fun _ => wpAny_pure ⟨plainId_quiet PySem.F.plain_extend_loop _, loop s6 _ I7 hS6 g6⟩)
  refine wpAny_bind (wpAny_rule ?_)
  refine wpAny_bind ?_
  show wpAny _ _ (updateSeq S (·.push .none) >>= fun _ => updateSeq S (·.pop)) _ _ _
  refine wpAny_bind (wpAny_updateSeq hS6 rfl ?_)
  have e9 := Heap.get?_update_self (h := s6.heap) (f := Obj.mapSeq (·.push Value.none)) hS6 rfl
  refine wpAny_updateSeq e9 rfl ?_ (by show 1 ≤ sizeLine; rw [sizeLine_eq]; decide) (by show 0 ≤ sizeLine + 1; exact Nat.zero_le _)
  have e10 := Heap.get?_update_self (h := s6.heap.update S (Obj.mapSeq (·.push Value.none))) (f := Obj.mapSeq (·.pop)) e9 rfl
  have J := I7.turnedL (h' := (s6.heap.update S (Obj.mapSeq (·.push Value.none))).update S (Obj.mapSeq (·.pop))) (t' := s6.toks) (ch := [S]) (fun b o hb e => (Heap.get?_update_other _ _ (fun z => hb (by simp [z]))).trans ((Heap.get?_update_other _ _ (fun z => hb (by simp [z]))).trans e)) (fun b hb => by rw [List.mem_singleton.mp hb]; exact fS)
  refine wpAny_pure ⟨plainId_quiet PySem.F.plain_extend_loop _, loop _ _ J e10 ?_⟩
  exact (Heap.get?_update_other _ _ Sne').trans ((Heap.get?_update_other _ _ Sne').trans g6)
end
end Tw

set_option Elab.async false
set_option linter.all false
set_option maxRecDepth 100000
set_option maxHeartbeats 2000000
/-! own rule: sorted(t), t a tuple of whole numbers -/
namespace Tw
open PySem PySem.Spec PyProof.Rows L2
section
variable {prog : Program} {w : World} {A : Around} {E : Value → Shared → Prop} {s : Shared}
/-- a tuple's items, gathered: they are met as a list's are -/
theorem gather_tup {t : Addr} {vs : List Value} {Q : List Value → Shared → Prop} (ht : s.heap.IsTuple t vs.toArray)
    (h : Q vs { s with heap := (s.heap.push (seqObj "list" #[] 0)).update s.heap.objs.size (Obj.mapSeq (· ++ vs.toArray)) }) (hz : vs.length ≤ sizeLine) :
    wpAny (model prog w) A (collect (.ref t)) Q E s := by
  obtain ⟨o, ho, hc, n, hd⟩ := ht
  unfold collect
  refine wpAny_bind (wpAny_runValue (codeAny_builtin entry_proto_collect' ?_))
  show wpAny _ _ (do again (.builtin "list.__iadd__" ⟨[← newList [], .ref t], []⟩)) _ _ s
  refine wpAny_bind (wpAny_newList (wpAny_pure ⟨Code.quiet_builtin _ (by decide +kernel), codeAny_builtin entry_list_iadd' ?_⟩))
  show wpAny _ _ (Builtin.List.listExtendWith (.ref s.heap.objs.size) (.ref t) (.ref s.heap.objs.size)) _ _ { s with heap := s.heap.push (seqObj "list" #[] 0) }
  have ho2 : (s.heap.push (seqObj "list" #[] 0)).get? t = some o := Heap.get?_push_of_some _ ho
  unfold Builtin.List.listExtendWith
  refine wpAny_bind (wpAny_typeOf (T := "tuple") ⟨o, ho2, hc⟩ ?_)
  have tt : (Value.type "tuple" == Value.type "tuple") = true := by rfl
  rw [if_pos (by rw [tt]; simp)]
  refine wpAny_bind (listItems_at ho2 hd ?_)
  refine wpAny_bind (listItems_at (xs := #[]) (n := 0) (Heap.get?_push_size _ rfl) rfl ?_)
  rw [if_neg (by simp)]
  refine wpAny_bind (listUpdate_at (xs := #[]) (n := 0) (Heap.get?_push_size _ rfl) rfl ?_ (Nat.zero_le _) (by show (#[] ++ vs.toArray).size ≤ sizeLine + 1; simp only [Array.size_append, List.size_toArray, List.length_nil]; omega))
  refine wpAny_pure ?_
  refine wpAny_bind (wpAny_load (get?_update_seq (Heap.get?_push_size _ rfl) _) ?_)
  show wpAny _ _ (pure ((#[] : Array Value) ++ vs.toArray).toList) Q E _
  rw [show ((#[] : Array Value) ++ vs.toArray).toList = vs by simp]
  exact wpAny_pure h
end
def rSortedTu (K : PySem.W.Frag) : List V → Hp → VK → Prop := fun vs H Q => ∃ (a : Addr) (ns : List Int), vs = [V.ref a] ∧ SqT K H a (ns.map V.int) ∧
  ∀ (ns' : List Int) (p : Addr), ns'.Perm ns → ns'.Pairwise (· ≤ ·) → H p = none → Q (.ref p) (upd H p (.lst (ns'.map V.int)))
section
variable {X : Cx}
theorem cr_sortedTu : CallR X (.builtin "sorted") (rSortedTu X.K) := by
  intro pins s σ H vs us Q I r h
  obtain ⟨a, ns, rfl, hs, q⟩ := h
  obtain ⟨its, rv, hl, hz⟩ := I.tuple hs
  rw [Vals.ref1 r]
  have hi := rv.ints
  have hzi : its.length ≤ sizeLine := by rw [← rv.length]; exact hz
  refine Calls.call_function_entry kind_sorted plain_sorted entry_sorted (args_sorted1 _) ?_
  unfold Builtin.«sorted»
  refine wpAny_bind (m := checkCount "sorted" 1 1 _) (wpAny_pure ?_)
  refine wpAny_bind (gather_tup hl ?_ hzi)
  refine wpAny_bind (wpAny_newList ?_ hzi)
  have hsz : ((s.heap.push (seqObj "list" #[] 0)).update s.heap.objs.size (Obj.mapSeq (· ++ its.toArray))).objs.size = s.heap.objs.size + 1 := by
    rw [Heap.size_update, size_push']
  have hoL : (((s.heap.push (seqObj "list" #[] 0)).update s.heap.objs.size (Obj.mapSeq (· ++ its.toArray))).push (seqObj "list" its.toArray 0)).get? (s.heap.objs.size + 1) = some (seqObj "list" its.toArray 0) := by
    rw [← hsz]
    exact Heap.get?_push_size _ rfl
  show wpAny _ _ _ _ _ { s with heap := ((s.heap.push (seqObj "list" #[] 0)).update s.heap.objs.size (Obj.mapSeq (· ++ its.toArray))).push (seqObj "list" its.toArray 0) }
  rw [hsz]
  refine wpAny_bind (wpAny_holding (wpAny_call_entry slot_list_sort ⟨_, hoL, rfl⟩ entry_list_sort (SrtO.list_sort_ord SrtO.swo_int hoL hzi (fun h2 => SrtO.ints_sortable hi h2) fun out h1 h2 => ⟨_, rfl, ?_⟩) (args_list_sort _)))
  refine wpAny_pure ⟨_, rfl, ?_⟩
  obtain ⟨k1, k2, k3⟩ := SrtO.ints_out hi h1 h2
  obtain ⟨ep, he'⟩ := PyProof.Rows.sortedAll_at s.heap its out.toArray
  have hlen : ((out.map SrtO.iv).map V.int).length ≤ sizeLine := by
    rw [List.length_map, k2.length_eq]
    rw [List.length_map] at hz
    exact hz
  exact ⟨.ref _, upd H (s.heap.objs.size + 1) (.lst ((out.map SrtO.iv).map V.int)), I.laid (t' := s.toks) (fun _ _ => PyProof.Rows.sortedAll_old) (Nat.le_succ _) ⟨hlen, out, ep, vals_of_ints k1, he'⟩, rfl, q _ _ k2 k3 (I.hok.fresh (Nat.le_succ _))⟩
end
end Tw

set_option Elab.async false
set_option linter.all false
set_option maxRecDepth 100000
set_option maxHeartbeats 1000000
/-! != of two tuples of two things, equal ones in turn -/
namespace Cq
open PySem PySem.SeqAt
open AutoSeq1 (wpAny_loadPart')
open MeetsSeq MeetsSeq2 MeetsSeq3 SeqRoads2
theorem pairs_ne {prog : Program} {w : World} {A : Around} {R : Result → Shared → Prop} {p q : Addr} {a b c e : Value} {k k2 : Nat} {u u2 : Option Addr} {z z2 : Array (Option Value)} {s : Shared}
    (hp : s.heap.get? p = some { cls := .type "tuple", dict := u, data := .seq #[a, b] k, slots := z }) (hq : s.heap.get? q = some { cls := .type "tuple", dict := u2, data := .seq #[c, e] k2, slots := z2 })
    (h : wpAny (model prog w) A.in1 (eqBool a c) (fun r s1 => r = true ∧ wpAny (model prog w) A.in1 (eqBool b e) (fun r s2 => r = true ∧ R (.ok (.ret (.bool false))) s2) (fun x s2 => R (.error x) s2) s1) (fun x s1 => R (.error x) s1) s) :
    wpAny (model prog w) A.in1 (Builtin.«tuple.__ne__» ⟨[.ref p, .ref q], []⟩) (GQ.FinOf prog w A R) (fun x s1 => R (.error x) s1) s := by
  have sub2 := AutoSeq1.sub_tuple_tuple
  obtain ⟨hh, gg, dd, tk, os⟩ := s
  wp_walk using wpAny_loadPart' hp, wpAny_loadPart' hq, wpAny_forIn_list _ (fun rest t s1 => t.1 = none ∧ ((rest = [(a, c), (b, e)] ∧ wpAny (model prog w) A.in1 (eqBool a c) (fun r s1 => r = true ∧ wpAny (model prog w) A.in1 (eqBool b e) (fun r s2 => r = true ∧ R (.ok (.ret (.bool false))) s2) (fun x s2 => R (.error x) s2) s1) (fun x s1 => R (.error x) s1) s1) ∨
    (rest = [(b, e)] ∧ wpAny (model prog w) A.in1 (eqBool b e) (fun r s2 => r = true ∧ R (.ok (.ret (.bool false))) s2) (fun x s2 => R (.error x) s2) s1) ∨ (rest = [] ∧ R (.ok (.ret (.bool false))) s1))) _
  case turn =>
    rintro ⟨y, x⟩ rest t s1 ⟨ht, ⟨e1, h1⟩ | ⟨e1, h1⟩ | ⟨e1, _⟩⟩
    · injection e1 with e1 e2
      injection e1 with e3 e4
      subst e3 e4 e2
      refine wpAny_bind (wpAny_mono h1 (fun r s2 g => ?_) fun _ _ g => g)
      obtain ⟨rfl, g⟩ := g
      wp_walk
      exact ⟨rfl, .inr (.inl ⟨rfl, g⟩)⟩
    · injection e1 with e1 e2
      injection e1 with e3 e4
      subst e3 e4 e2
      refine wpAny_bind (wpAny_mono h1 (fun r s2 g => ?_) fun _ _ g => g)
      obtain ⟨rfl, g⟩ := g
      wp_walk
      exact ⟨rfl, .inr (.inr ⟨rfl, g⟩)⟩
    · cases e1
  case fin =>
    rintro ⟨t1, t2⟩ s1 ⟨ht, ⟨e1, _⟩ | ⟨e1, _⟩ | ⟨_, h1⟩⟩
    · cases e1
    · cases e1
    · simp only at ht
      subst ht
      wp_walk
      simpa [Builtin.Tuple.tupleCompareSizes] using h1
  case h => exact ⟨rfl, .inl ⟨rfl, h⟩⟩
end Cq
namespace L2
open PySem PySem.Spec PyProof.Rows
theorem vals_two {a b : V} {l : List Value} (r : Vals [a, b] l) : ∃ x y, l = [x, y] ∧ RelV a x ∧ RelV b y := by
  cases r with
  | cons ra r =>
    cases r with
    | cons rb r =>
      cases r
      exact ⟨_, _, rfl, ra, rb⟩
def DPair (K : PySem.W.Frag) (D1 D2 : Eqv) : Eqv := fun x y H => ∃ (p q : Addr) (a b c e : V), x = .ref p ∧ y = .ref q ∧ SqT K H p [a, b] ∧ SqT K H q [c, e] ∧ D1 a c H ∧ D2 b e H
def rNeP (D : Eqv) : R2 := fun x y H Q => D x y H ∧ ∀ H', Ext H H' → Q (.bl false) H'
theorem op_neP {X : Cx} {n : Nat} {D1 D2 : Eqv} (g1 : EqG X n D1) (g2 : EqG X n D2) (m2 : Mon D2) (hr : Room (n + 1) X.A) : OpR X (compareOp .NotEq) (rNeP (DPair X.K D1 D2)) := by
  intro pins s σ H x y v u Q I rx ry ⟨⟨p, q, a, b, c, e, ex, ey, hp, hq, d1, d2⟩, k⟩
  subst ex ey
  cases rx
  cases ry
  have sb : Sub X (n + 1) X.A := ⟨hr, rfl⟩
  obtain ⟨its, r, e1, _⟩ := I.tuple hp
  obtain ⟨its2, r2, e2, _⟩ := I.tuple hq
  obtain ⟨va, vb, ei, ra, rb⟩ := vals_two r
  obtain ⟨vc, ve, ei2, rc, re⟩ := vals_two r2
  subst ei ei2
  obtain ⟨⟨cl, u1, da, z1⟩, o1, c1, n1, w1⟩ := id e1
  obtain ⟨⟨cl2, u2, da2, z2⟩, o2, c2, n2, w2⟩ := id e2
  dsimp only at c1 w1 c2 w2
  subst c1 w1 c2 w2
  show wpAny (model X.prog X.w) X.A (richCompare .NotEq (.ref p) (.ref q)) (EP X pins σ Q) X.xe s
  refine wpAny_richCompare_same_room (op := .NotEq) ⟨_, o1, rfl⟩ ⟨_, o2, rfl⟩ F.slot_tuple_ne (GQ.call_here F.slot_tuple_ne ⟨_, o1, rfl⟩ F.entry_tuple_ne (F.args_tuple_ne_2 _ _) ?_) hr.units0
  refine Cq.pairs_ne (R := wants (fun v s' => v ≠ .notImplemented ∧ EP X pins σ Q v s') X.xe) o1 o2 ?_
  refine wpAny_mono (g1 X.A.in1 pins s σ H _ _ va vc sb.in1 I ra rc d1) (fun t s1 ⟨ht, H1, I1, x1⟩ => ⟨ht, ?_⟩) fun _ _ g => g
  refine wpAny_mono (g2 X.A.in1 pins s1 σ H1 _ _ vb ve sb.in1 I1 rb re (m2 _ _ _ _ x1 d2)) (fun t s2 ⟨ht, H2, I2, x2⟩ => ⟨ht, ?_⟩) fun _ _ g => g
  exact ⟨(fun g => nomatch g), .bl false, H2, I2, rfl, k H2 (x1.trans x2)⟩
end L2


set_option Elab.async false
set_option linter.all false
set_option maxRecDepth 100000
set_option maxHeartbeats 4000000
/-! set(xs), xs a list of ints, as a value -/
namespace L2
open PySem PySem.Spec PyProof.Rows
section
variable {P : Program} {w : World} {A : Around} {E : Value → Shared → Prop}
/-- the set that is there at first -/
abbrev eS (w : World) : Obj := { cls := .type "set", dict := none, data := .set #[] 0 (.fresh 0 0 (!w.params.followText "set-order")) }
theorem init_over {z : Shared} {D l : Addr} {items : Array Value} {ns : List Int} {R : Result → Shared → Prop} (hh : A.handled = none) (hD : z.heap.get? D = some (eS w)) (hl : z.heap.IsList l items) (hit : IntsAre items.toList ns) (hb : ns.length + 1 < scanBound) (hne : l ≠ D)
    (q : ∀ (h' : Heap) (tk c : Nat), SetR w h' D (fun j => decide (j ∈ ns)) c → c ≤ ns.length → (∀ b o, b ≠ D → z.heap.get? b = some o → h'.get? b = some o) → R (.ok (.ret .none)) { z with heap := h', toks := tk }) :
    codeAny (model P w) A (.call (.builtin "set.__init__") ⟨[.ref D, .ref l], []⟩) R z := by
  have hn : items.size = ns.length := by
    have e := IntsAre.length hit
    rw [Array.length_toList] at e
    exact e
  have hT : Shared.TypeIs z (.ref D) "set" := ⟨_, hD, rfl⟩
  have lD : D < z.heap.objs.size := Heap.lt_size hD
  obtain ⟨⟨oc, od, oa, os⟩, hol, hcl, nl, hdl⟩ := id hl
  have ll : l < z.heap.objs.size := Heap.lt_size hol
  dsimp only at hcl hdl
  subst hcl hdl
  have no1 := F.sub_list_set
  have no2 := F.sub_list_frozenset
  have no3 : (Value.type "list" == Value.type "dict") = false := by decide
  refine codeAny_call_builtin F.called_set.init.plain F.entry_set_init (check_set_init_1 hT ?_)
  unfold Builtin.«set.__init__» noKeywords Builtin.Frozenset.updateFrom
  generalize hPI : pyIter = PI
  wp_walk
  subst hPI
  refine wpAny_pyIter_list hl ?_
  refine wpAny_bind (wpAny_runValue ?_)
  have free3 : A.in1.in1.handled = none := by simp [hh]
  have apart : l ≠ z.heap.objs.size := Nat.ne_of_lt ll
  have offS : D ∉ [z.heap.objs.size, l] := fun m => by
    rcases List.mem_cons.mp m with y | y
    · exact absurd y (Nat.ne_of_lt lD)
    · exact hne (List.mem_singleton.mp y).symm
  have each : ∀ (i : Nat) (v : Value), items[i]? = some v → ∃ k t, ns[i]? = some k ∧ v = .int k t := fun i v e => by
    have hi : i < ns.length := hn ▸ (Array.getElem?_eq_some_iff.mp e).1
    obtain ⟨t, e2⟩ := IntsAre.int_at hit i v (by rw [Array.getElem?_toList]; exact e)
    exact ⟨ns[i], t, List.getElem?_eq_getElem hi, by rw [e2, List.getD_eq_getElem?_getD, List.getElem?_eq_getElem hi]; rfl⟩
  refine set_update_ints ((Walks.list free3 _ l apart items).toS) D offS ns hn hb each (items.size - 0) 0 _ (by omega) (Nat.zero_le _) ?_ ⟨0, Nat.le_refl 0, ?_⟩ ?_
  · exact ⟨⟨_, Heap.get?_push_size _ rfl, rfl, rfl⟩, hl.push _⟩
  · exact setR_new_at (Heap.get?_push_of_some _ hD)
  rintro ⟨h', gens', drawn', tk', os'⟩ c moved hc new
  obtain rfl : gens' = z.gens := moved.gens
  obtain rfl : drawn' = z.drawn := moved.drawn
  obtain rfl : os' = z.os := moved.os
  show wpAny _ _ _ _ _ _
  refine wpAny_pure ?_
  show wpAny _ _ (ret Value.none) _ _ _
  refine wpAny_pure (q h' tk' c new (by omega) fun b o hbD e => ?_)
  have lb : b < z.heap.objs.size := Heap.lt_size e
  refine moved.heap b o (fun m => ?_) (Heap.get?_push_of_some _ e)
  rcases List.mem_cons.mp m with y | y
  · exact hbD y
  · exact absurd (List.mem_singleton.mp y) (Nat.ne_of_lt lb)
theorem set_over {z : Shared} {l : Addr} {items : Array Value} {ns : List Int} {Q : Value → Shared → Prop} (hh : A.handled = none) (hl : z.heap.IsList l items) (hit : IntsAre items.toList ns) (hb : ns.length + 1 < scanBound)
    (q : ∀ (h' : Heap) (tk c : Nat), SetR w h' z.heap.objs.size (fun j => decide (j ∈ ns)) c → c ≤ ns.length → (∀ b o, z.heap.get? b = some o → h'.get? b = some o) → Q (.ref z.heap.objs.size) { z with heap := h', toks := tk }) :
    wpAny (model P w) A (call (.type "set") [.ref l]) Q E z := by
  obtain ⟨c0, t0, mro0⟩ := F.called_set.mro
  have m1 := F.called_set.made
  have m2 := F.called_set.sub
  have m3 := F.called_set.notType
  have m4 := F.called_set.canCreate
  have m5 := F.typeCall_set_1 (.ref l)
  have ll : l < z.heap.objs.size := by
    obtain ⟨o, ho, _⟩ := id hl
    exact Heap.lt_size ho
  refine wpAny_call (codeAny_of_tree ?_)
  show wpAny _ _ (callAny (.type "set") _) _ _ _
  refine wpAny_pure ⟨Code.quiet_builtin _ (by decide +kernel), codeAny_builtin F.entry_type_call ?_⟩
  rw [Around.under_plain (weight_type_call_type "set" [.ref l] []) rfl]
  repeat any_goals first | assumption | wp_step
  have new1 : (z.heap.push (eS w)).get? z.heap.objs.size = some (eS w) := Heap.get?_push_size _ rfl
  refine codeAny_mono (code_set_led1 (.ref l) (E := E) (Q₁ := fun v y => v = .ref z.heap.objs.size ∧ y = { z with heap := z.heap.push (eS w) }) ⟨rfl, rfl⟩) fun r y hr => ?_
  cases r with
  | error e => exact hr
  | ok fl =>
    cases fl with
    | ret v =>
      obtain ⟨rfl, rfl⟩ := hr
      have hT : Shared.TypeIs { z with heap := z.heap.push (eS w) } (.ref z.heap.objs.size) "set" := ⟨_, new1, rfl⟩
      have i1 := F.called_set.init.lookup
      have i2 := F.called_set.init.bind (.ref z.heap.objs.size)
      repeat any_goals first | assumption | wp_step
      refine init_over (A := A.in1) (z := { z with heap := z.heap.push (eS w) }) (D := z.heap.objs.size) (by simp [hh]) new1 (hl.push _) hit hb (Nat.ne_of_lt ll) fun h' tk c S hc k => ?_
      show wpAny _ _ (pure (some Value.none)) _ _ _
      repeat any_goals first | assumption | wp_step
      exact q h' tk c S hc fun b o e => k b o (Nat.ne_of_lt (Heap.lt_size e)) (Heap.get?_push_of_some _ e)
    | _ => exact hr.elim
end
section
variable {X : Cx}
/-- set(xs) -/
def rSetLI (K : PySem.W.Frag) (w : World) : List V → Hp → VK → Prop := fun xs H Q => ∃ (l : Addr) (ns : List Int), xs = [V.ref l] ∧ SqL K H l (ns.map V.int) ∧ ns.length ≤ 1000 ∧ ∀ p n, n ≤ ns.length → H p = none → Q (.ref p) (upd H p (SetO w p (fun j => decide (j ∈ ns)) n))
theorem cr_setLI (hc : X.calm = true) : CallR X (.type "set") (rSetLI X.K X.w) := by
  intro pins s σ H xs us Q I r h
  obtain ⟨l, ns, rfl, hl, h1, q⟩ := h
  obtain ⟨its, rv, pl, _⟩ := I.list hl
  rw [Vals.ref1 r]
  refine set_over (I.ok.hd hc) pl.isList (ns := ns) (by simpa using rv.ints) (by unfold scanBound; omega) fun h' tk c R hc k => ?_
  exact ⟨.ref _, upd H s.heap.objs.size (SetO X.w s.heap.objs.size (fun j => decide (j ∈ ns)) c), I.laid (t' := tk) k (Nat.le_refl _) (setO_new R), rfl, q _ c hc (I.hok.fresh (Nat.le_refl _))⟩
end
end L2

set_option Elab.async false
set_option linter.all false
set_option maxRecDepth 100000
set_option maxHeartbeats 4000000
/-! sorted(xs), xs a list of tuples of ints, as long as a list may be -/
namespace L2
open PySem PySem.Spec PyProof.Rows PySem.W
abbrev tupE (ns : List Int) : PyData := .tuple (ns.map .int)
theorem tupE_le : dataLe false tupE = fun p q => decide (p ≤ q) := by
  funext p q
  show (!dataLt (.tuple (q.map .int)) (.tuple (p.map .int))) = _
  rw [dataLt_tuple]
  show (!rowLt (q.map .int) (p.map .int)) = _
  rw [dataLt_ints]
  by_cases h : q < p
  · have h' : ¬ p ≤ q := fun r => List.not_lt.mpr r h
    simp [h, h']
  · have h' : p ≤ q := List.not_lt.mp h
    simp [h, h']
section
variable {X : Cx} {pins : List (Addr × Obj)} {σ : St} {H : Hp} {s : Shared}
abbrev TupV (K : PySem.W.Frag) (H : Hp) (u : Value) (ns : List Int) : Prop := ∃ t, u = .ref t ∧ SqT K H t (ns.map V.int)
theorem tupV_of : ∀ {xs : List V} {bs : List (List Int)} {us : List Value}, Paired (TupI X.K H) xs bs → Vals xs us → EachIs (TupV X.K H) us bs
  | _, _, _, .nil, .nil => .nil
  | _, _, _, .cons ⟨t, e, h⟩ p, .cons r v => by
    subst e
    cases r
    exact .cons ⟨t, rfl, h⟩ (tupV_of p v)
theorem tupV_to : ∀ {bs : List (List Int)} {us : List Value}, EachIs (TupV X.K H) us bs → Paired (TupI X.K H) (us.map bkV) bs ∧ ∀ u ∈ us, ∃ a, u = Value.ref a
  | _, _, .nil => ⟨.nil, fun u hu => absurd hu (by simp)⟩
  | _, _, .cons ⟨t, e, h⟩ p => by
    subst e
    obtain ⟨h1, h2⟩ := tupV_to p
    refine ⟨.cons ⟨t, rfl, h⟩ h1, fun u hu => ?_⟩
    rcases List.mem_cons.mp hu with e | hu
    · exact ⟨t, e⟩
    · exact h2 u hu
theorem tupV_reads (I : Inv X pins σ H s) {u : Value} {ns : List Int} (h : TupV X.K H u ns) : ∃ as, Reads s.heap u (tupE ns) as := by
  obtain ⟨t, rfl, ht⟩ := h
  obtain ⟨its, rv, hT, _⟩ := I.tuple ht
  exact ⟨_, reads_tuple_ints hT (by simpa using rv.ints)⟩
/-- sorted(xs): the items ascending as tuples are -/
def rSortTA (K : PySem.W.Frag) : List V → Hp → VK → Prop := fun vs H Q => ∃ (a : Addr) (xs : List V) (bs : List (List Int)), vs = [V.ref a] ∧ SqL K H a xs ∧ Paired (TupI K H) xs bs ∧ (∀ b ∈ bs, b ≠ []) ∧
  ∀ (ys : List V) (p : Addr), Paired (TupI K H) ys (bs.mergeSort fun p q => decide (p ≤ q)) → H p = none → Q (.ref p) (upd H p (.lst ys))
theorem cr_sortTA (hu : X.A.units + 65 < cLine) : CallR X (.builtin "sorted") (rSortTA X.K) := by
  intro pins s σ H vs us Q I r h
  obtain ⟨a, xs, bs, rfl, hs, hp, hne, q⟩ := h
  obtain ⟨its, rv, hl, hz⟩ := I.list hs
  rw [Vals.ref1 r]
  have e0 : EachIs (TupV X.K H) its bs := tupV_of hp rv
  have hlen : bs.length = xs.length := (Paired.length hp).symm
  refine sorted_data (A := X.A) (R := TupV X.K H) (enc := tupE) hl.isList e0 (e0.mono fun u ns h => tupV_reads I h) (AllAlike.of fun b b' => by simp [alike, alike_ints]) (.inl fun d hd => ?_) (by rw [hlen]; exact hz) (fun b _ => ?_) fun out ho eo => ?_
  · obtain ⟨b, hb, rfl⟩ := List.mem_map.mp hd
    match b, hne b hb with
    | x :: r, _ => exact ⟨_, _, rfl⟩
  · have : (tupE b).depth ≤ 1 := by simp [PyData.depth, depth_ints]
    omega
  · rw [tupE_le] at eo
    obtain ⟨e1, e2⟩ := tupV_to eo
    obtain ⟨ep, he'⟩ := PyProof.Rows.sortedAll_at s.heap its out.toArray
    have hz2 : (out.map bkV).length ≤ sizeLine := by
      rw [List.length_map, ho, hlen]
      exact hz
    exact ⟨.ref _, upd H (s.heap.objs.size + 1) (.lst (out.map bkV)), I.laid (t' := s.toks) (fun _ _ => PyProof.Rows.sortedAll_old) (Nat.le_succ _) ⟨hz2, out, ep, bkV_vals e2, he'⟩, rfl, q _ _ e1 (I.hok.fresh (Nat.le_succ _))⟩
end
end L2

set_option Elab.async false
set_option linter.all false
set_option maxRecDepth 100000
set_option maxHeartbeats 4000000
/-! math.factorial -/
namespace L2
open PySem PySem.Spec PyProof.Rows
section
variable {X : Cx}
abbrev facN (n : Nat) : Nat := PySem.Builtin.Math.factorialNat n
def rFac : List V → Hp → VK → Prop := fun vs H Q => ∃ n : Nat, vs = [.int n] ∧ n ≤ 20000 ∧ Q (.int (facN n : Nat)) H
theorem cr_fac : CallR X (.builtin "math.factorial") rFac := by
  intro pins s σ H vs us Q I r h
  obtain ⟨n, rfl, hn, q⟩ := h
  cases r with
  | cons r1 r2 =>
    cases r2
    obtain ⟨t, rfl⟩ := r1
    exact PySem.W.mc_factorial (by omega) (by omega) fun _ => ⟨.int _, H, I.tok _, ⟨_, rfl⟩, q⟩
end
end L2

set_option Elab.async false
set_option linter.all false
set_option maxRecDepth 100000
set_option maxHeartbeats 4000000
/-! sorted(xs), xs a list of one item at most, whatever it is -/
namespace L2
open PySem PySem.Spec PyProof.Rows PySem.W
section
variable {X : Cx}
def rSort1 (K : PySem.W.Frag) : List V → Hp → VK → Prop := fun vs H Q => ∃ (a : Addr) (xs : List V), vs = [V.ref a] ∧ SqL K H a xs ∧ xs.length ≤ 1 ∧
  ∀ p : Addr, H p = none → Q (.ref p) (upd H p (.lst xs))
theorem cr_sort1 : CallR X (.builtin "sorted") (rSort1 X.K) := by
  intro pins s σ H vs us Q I r h
  obtain ⟨a, xs, rfl, hs, h1, q⟩ := h
  obtain ⟨its, rv, hl, hz⟩ := I.list hs
  rw [Vals.ref1 r]
  have hlen : xs.length = its.length := rv.length
  refine Srt.sorted_any hl.isList (by omega) (fun h2 => by omega) fun out hp => ?_
  have e : out = its := by
    match its, hlen with
    | [], _ => exact List.Perm.eq_nil hp
    | [x], _ => exact List.perm_singleton.mp hp
    | _ :: _ :: _, hl => simp only [List.length_cons] at hl; omega
  subst e
  obtain ⟨ep, he'⟩ := PyProof.Rows.sortedAll_at s.heap out out.toArray
  exact ⟨.ref _, upd H (s.heap.objs.size + 1) (.lst xs), I.laid (t' := s.toks) (fun _ _ => PyProof.Rows.sortedAll_old) (Nat.le_succ _) ⟨hz, out, ep, rv, he'⟩, rfl, q _ (I.hok.fresh (Nat.le_succ _))⟩
end
end L2

set_option Elab.async false
set_option linter.all false
set_option maxRecDepth 100000
set_option maxHeartbeats 4000000
/-! xs.extend(t), t a tuple -/
namespace PySem
open PySem PySem.W PySem.AutoSeq1
theorem ext_tup {l b : Addr} {items items2 : Array Value} {n n2 : Nat} {dc : Option Addr} {sl : Array (Option Value)} (hs0 : ¬(!items.isEmpty && Builtin.List.listTooLong (items.size + items2.size)) = true) (hs1 : items.size ≤ sizeLine) (hs2 : items.size + items2.size ≤ sizeLine + 1) :
    Meets (Builtin.«list.extend» ⟨[.ref l, .ref b], []⟩) (fun _ R s => s.heap.get? l = some { cls := .type "list", dict := none, data := .seq items n, slots := #[] } ∧ s.heap.get? b = some { cls := .type "tuple", dict := dc, data := .seq items2 n2, slots := sl } ∧
      R (.ok (.ret Value.none)) { s with heap := s.heap.update l (Obj.mapSeq fun x => x ++ items2), toks := s.toks }) :=
  .of_wp fun prog w A R s h => by
    obtain ⟨hp, g, d, tk, os⟩ := s
    obtain ⟨hl, hb, h⟩ := h
    have f1 := idx_int
    have f2 := sub_tuple_tuple
    have f3 := sub_list_list
    have f4 := sub_tuple_list
    have f5 := sub_list_tuple
    have hz' : (items ++ items2).size ≤ sizeLine + 1 := by rw [Array.size_append]; exact hs2
    wp_walk using (wpAny_updateSeq hl rfl (hz := hs1) (_hz' := hz')), wpAny_loadPart' hl, wpAny_loadPart' hb
    exact ⟨_, rfl, h⟩
end PySem
namespace L2
open PySem PySem.Spec PyProof.Rows PySem.W
section
variable {X : Cx}
def rExtT (K : PySem.W.Frag) : V → List V → Hp → VK → Prop := fun x vs H Q => ∃ (l b : Addr) (xs zs : List V), x = .ref l ∧ vs = [.ref b] ∧ H l = some (.lst xs) ∧ SqT K H b zs ∧ xs.length + zs.length ≤ sizeLine ∧
  Q .non (upd H l (.lst (xs ++ zs)))
theorem mt_extendT : MtM X "list.extend" (rExtT X.K) := by
  intro pins s σ H x vs v us Q I rx rv h
  obtain ⟨l, b, xs, zs, rfl, rfl, hH, hB, hz, q⟩ := h
  cases rx
  obtain ⟨u, rfl, ru⟩ := rv.one
  cases ru
  obtain ⟨z, its, n, r, hl, e⟩ := I.lstM hH
  obtain ⟨its2, r2, ⟨ob, eb, hc, n2, hd⟩, hl2⟩ := I.tuple hB
  obtain ⟨cls, dc, data, sl⟩ := ob
  dsimp only at hc hd
  subst hc hd
  have h1 := r.length
  have h2 := r2.length
  have hsz : its.toArray.size + its2.toArray.size ≤ sizeLine := by rw [List.size_toArray, List.size_toArray]; omega
  have hlong : ¬ (!its.toArray.isEmpty && Builtin.List.listTooLong (its.toArray.size + its2.toArray.size)) = true := by
    rw [notLongL hsz, Bool.and_false]
    exact Bool.false_ne_true
  refine call_meets F.slot_list_extend ⟨_, e, rfl⟩ F.entry_list_extend (F.args_list_extend_2 _ _) (PySem.ext_tup hlong (by rw [List.size_toArray]; omega) (by omega)) ⟨e, eb, ?_⟩
  refine ⟨.non, _, I.lset (its' := its ++ its2) hH e (by simp) (r.append r2) ?_, rfl, q⟩
  rw [List.length_append]
  omega
end
end L2

set_option Elab.async false
set_option linter.all false
set_option maxRecDepth 100000
set_option maxHeartbeats 4000000
/-! set(xs), xs a tuple of ints, as a value -/
namespace L2
open PySem PySem.Spec PyProof.Rows
section
variable {P : Program} {w : World} {A : Around} {E : Value → Shared → Prop}
theorem sub_tup_set : isSubtype (.type "tuple") (.type "set") = pure false := by rw [isSubtype_type]; kernel_rfl
theorem sub_tup_frz : isSubtype (.type "tuple") (.type "frozenset") = pure false := by rw [isSubtype_type]; kernel_rfl
theorem init_overT {z : Shared} {D l : Addr} {items : Array Value} {ns : List Int} {R : Result → Shared → Prop} (hh : A.handled = none) (hD : z.heap.get? D = some (eS w)) (hl : z.heap.IsTuple l items) (hit : IntsAre items.toList ns) (hb : ns.length + 1 < scanBound) (hne : l ≠ D)
    (q : ∀ (h' : Heap) (tk c : Nat), SetR w h' D (fun j => decide (j ∈ ns)) c → c ≤ ns.length → (∀ b o, b ≠ D → z.heap.get? b = some o → h'.get? b = some o) → R (.ok (.ret .none)) { z with heap := h', toks := tk }) :
    codeAny (model P w) A (.call (.builtin "set.__init__") ⟨[.ref D, .ref l], []⟩) R z := by
  have hn : items.size = ns.length := by
    have e := IntsAre.length hit
    rw [Array.length_toList] at e
    exact e
  have hT : Shared.TypeIs z (.ref D) "set" := ⟨_, hD, rfl⟩
  have lD : D < z.heap.objs.size := Heap.lt_size hD
  obtain ⟨⟨oc, od, oa, os⟩, hol, hcl, nl, hdl⟩ := id hl
  have ll : l < z.heap.objs.size := Heap.lt_size hol
  dsimp only at hcl hdl
  subst hcl hdl
  have no1 := sub_tup_set
  have no2 := sub_tup_frz
  have no3 : (Value.type "tuple" == Value.type "dict") = false := by decide
  refine codeAny_call_builtin F.called_set.init.plain F.entry_set_init (check_set_init_1 hT ?_)
  unfold Builtin.«set.__init__» noKeywords Builtin.Frozenset.updateFrom
  generalize hPI : pyIter = PI
  wp_walk
  subst hPI
  refine wpAny_pyIter_tuple hl ?_
  refine wpAny_bind (wpAny_runValue ?_)
  have free3 : A.in1.in1.handled = none := by simp [hh]
  have apart : l ≠ z.heap.objs.size := Nat.ne_of_lt ll
  have offS : D ∉ [z.heap.objs.size, l] := fun m => by
    rcases List.mem_cons.mp m with y | y
    · exact absurd y (Nat.ne_of_lt lD)
    · exact hne (List.mem_singleton.mp y).symm
  have each : ∀ (i : Nat) (v : Value), items[i]? = some v → ∃ k t, ns[i]? = some k ∧ v = .int k t := fun i v e => by
    have hi : i < ns.length := hn ▸ (Array.getElem?_eq_some_iff.mp e).1
    obtain ⟨t, e2⟩ := IntsAre.int_at hit i v (by rw [Array.getElem?_toList]; exact e)
    exact ⟨ns[i], t, List.getElem?_eq_getElem hi, by rw [e2, List.getD_eq_getElem?_getD, List.getElem?_eq_getElem hi]; rfl⟩
  refine set_update_ints ((Walks.tuple free3 _ l apart items).toS) D offS ns hn hb each (items.size - 0) 0 _ (by omega) (Nat.zero_le _) ?_ ⟨0, Nat.le_refl 0, ?_⟩ ?_
  · exact ⟨⟨_, Heap.get?_push_size _ rfl, rfl, rfl⟩, hl.push _⟩
  · exact setR_new_at (Heap.get?_push_of_some _ hD)
  rintro ⟨h', gens', drawn', tk', os'⟩ c moved hc new
  obtain rfl : gens' = z.gens := moved.gens
  obtain rfl : drawn' = z.drawn := moved.drawn
  obtain rfl : os' = z.os := moved.os
  show wpAny _ _ _ _ _ _
  refine wpAny_pure ?_
  show wpAny _ _ (ret Value.none) _ _ _
  refine wpAny_pure (q h' tk' c new (by omega) fun b o hbD e => ?_)
  have lb : b < z.heap.objs.size := Heap.lt_size e
  refine moved.heap b o (fun m => ?_) (Heap.get?_push_of_some _ e)
  rcases List.mem_cons.mp m with y | y
  · exact hbD y
  · exact absurd (List.mem_singleton.mp y) (Nat.ne_of_lt lb)
theorem set_overT {z : Shared} {l : Addr} {items : Array Value} {ns : List Int} {Q : Value → Shared → Prop} (hh : A.handled = none) (hl : z.heap.IsTuple l items) (hit : IntsAre items.toList ns) (hb : ns.length + 1 < scanBound)
    (q : ∀ (h' : Heap) (tk c : Nat), SetR w h' z.heap.objs.size (fun j => decide (j ∈ ns)) c → c ≤ ns.length → (∀ b o, z.heap.get? b = some o → h'.get? b = some o) → Q (.ref z.heap.objs.size) { z with heap := h', toks := tk }) :
    wpAny (model P w) A (call (.type "set") [.ref l]) Q E z := by
  obtain ⟨c0, t0, mro0⟩ := F.called_set.mro
  have m1 := F.called_set.made
  have m2 := F.called_set.sub
  have m3 := F.called_set.notType
  have m4 := F.called_set.canCreate
  have m5 := F.typeCall_set_1 (.ref l)
  have ll : l < z.heap.objs.size := by
    obtain ⟨o, ho, _⟩ := id hl
    exact Heap.lt_size ho
  refine wpAny_call (codeAny_of_tree ?_)
  show wpAny _ _ (callAny (.type "set") _) _ _ _
  refine wpAny_pure ⟨Code.quiet_builtin _ (by decide +kernel), codeAny_builtin F.entry_type_call ?_⟩
  rw [Around.under_plain (weight_type_call_type "set" [.ref l] []) rfl]
  repeat any_goals first | assumption | wp_step
  have new1 : (z.heap.push (eS w)).get? z.heap.objs.size = some (eS w) := Heap.get?_push_size _ rfl
  refine codeAny_mono (code_set_led1 (.ref l) (E := E) (Q₁ := fun v y => v = .ref z.heap.objs.size ∧ y = { z with heap := z.heap.push (eS w) }) ⟨rfl, rfl⟩) fun r y hr => ?_
  cases r with
  | error e => exact hr
  | ok fl =>
    cases fl with
    | ret v =>
      obtain ⟨rfl, rfl⟩ := hr
      have hT : Shared.TypeIs { z with heap := z.heap.push (eS w) } (.ref z.heap.objs.size) "set" := ⟨_, new1, rfl⟩
      have i1 := F.called_set.init.lookup
      have i2 := F.called_set.init.bind (.ref z.heap.objs.size)
      repeat any_goals first | assumption | wp_step
      refine init_overT (A := A.in1) (z := { z with heap := z.heap.push (eS w) }) (D := z.heap.objs.size) (by simp [hh]) new1 (hl.push _) hit hb (Nat.ne_of_lt ll) fun h' tk c S hc k => ?_
      show wpAny _ _ (pure (some Value.none)) _ _ _
      repeat any_goals first | assumption | wp_step
      exact q h' tk c S hc fun b o e => k b o (Nat.ne_of_lt (Heap.lt_size e)) (Heap.get?_push_of_some _ e)
    | _ => exact hr.elim
end
section
variable {X : Cx}
/-- set(xs) -/
def rSetTI (K : PySem.W.Frag) (w : World) : List V → Hp → VK → Prop := fun xs H Q => ∃ (l : Addr) (ns : List Int), xs = [V.ref l] ∧ SqT K H l (ns.map V.int) ∧ ns.length ≤ 1000 ∧ ∀ p n, n ≤ ns.length → H p = none → Q (.ref p) (upd H p (SetO w p (fun j => decide (j ∈ ns)) n))
theorem cr_setTI (hc : X.calm = true) : CallR X (.type "set") (rSetTI X.K X.w) := by
  intro pins s σ H xs us Q I r h
  obtain ⟨l, ns, rfl, hl, h1, q⟩ := h
  obtain ⟨its, rv, pl, _⟩ := I.tuple hl
  rw [Vals.ref1 r]
  refine set_overT (I.ok.hd hc) pl (ns := ns) (by simpa using rv.ints) (by unfold scanBound; omega) fun h' tk c R hc k => ?_
  exact ⟨.ref _, upd H s.heap.objs.size (SetO X.w s.heap.objs.size (fun j => decide (j ∈ ns)) c), I.laid (t' := tk) k (Nat.le_refl _) (setO_new R), rfl, q _ c hc (I.hok.fresh (Nat.le_refl _))⟩
end
end L2

set_option Elab.async false
set_option linter.all false
set_option maxRecDepth 100000
set_option maxHeartbeats 4000000
/-! t > u, both tuples of ints -/
namespace L2
open PySem PySem.Spec PyProof.Rows
abbrev gtB (ns ms : List Int) : Bool := Ob.lexAt (fun j => decide (ns.getD j 0 = ms.getD j 0)) (fun j => decide (ms.getD j 0 < ns.getD j 0)) (decide (ms.length < ns.length)) 0 (min ns.length ms.length)
def rGtT (K : PySem.W.Frag) : R2 := fun x y H Q => ∃ (t1 t2 : Addr) (ns ms : List Int), (x = .ref t1 ∧ y = .ref t2) ∧ (SqT K H t1 (ns.map V.int) ∧ SqT K H t2 (ms.map V.int)) ∧ Q (.bl (gtB ns ms)) H
theorem op_gtT {X : Cx} (few : X.A.units < cLine) : OpR X (compareOp .Gt) (rGtT X.K) := by
  rintro pins s σ H x y v u Q I rx ry ⟨t1, t2, ns, ms, ⟨rfl, rfl⟩, ⟨h1, h2⟩, q⟩
  cases rx; cases ry
  obtain ⟨us, va, pa, _⟩ := I.tuple h1
  obtain ⟨ws, vb, pb, _⟩ := I.tuple h2
  have item : ∀ {zs : List Value} {ks : List Int}, IntsAre zs ks → ∀ j (h : j < zs.toArray.size), ∃ t, zs.toArray[j] = .int (ks.getD j 0) t := fun ii j h =>
    PyProof.Rows.IntsAre.int_at ii _ _ (by simp at h; simp [h])
  have size : ∀ {zs : List Value} {ks : List Int}, IntsAre zs ks → zs.toArray.size = ks.length := fun ii => by rw [List.size_toArray]; exact ii.length
  have beq : ∀ a b : Int, decide (a = b) = (a == b) := fun a b => by
    by_cases c : a = b
    · subst c; simp
    · rw [decide_eq_false c]; exact (beq_eq_false_iff_ne.mpr c).symm
  have main := Ob.RcOp.tuples_gt (A := X.A) (s := s) (e := fun j => decide (ns.getD j 0 = ms.getD j 0)) (r := fun j => decide (ms.getD j 0 < ns.getD j 0)) pa pb few
    (fun j i1 i2 => by
      obtain ⟨k1, g1⟩ := item va.ints j i1
      obtain ⟨k2, g2⟩ := item vb.ints j i2
      rw [g1, g2, beq]
      exact SeqAt.EqAt.int_int _ _ _ _)
    (fun j i1 i2 _ => by
      obtain ⟨k1, g1⟩ := item va.ints j i1
      obtain ⟨k2, g2⟩ := item vb.ints j i2
      rw [g1, g2]
      exact Ob.RcOp.gt_int _ _ _ _)
  rw [size va.ints, size vb.ints] at main
  exact main X.prog X.w X.xe (EP X pins σ Q) ⟨.bl _, H, I, rfl, q⟩
end L2

set_option Elab.async false
set_option linter.all false
set_option maxRecDepth 100000
set_option maxHeartbeats 4000000
/-! sorted(xs), xs a list of tuples of ints, the first of which has no item -/
namespace PySem.W
open PySem PySem.Calls PyProof.Rows PySem.SeqAt
section
variable {prog : Program} {w : World} {A : Around} {E : Value → Shared → Prop} {s : Shared}
theorem call_tuple_ltZ {Q : Value → Shared → Prop} {l b : Addr} {items items2 : Array Value} {e r : Nat → Bool} (hl : s.heap.IsTuple l items) (hb : s.heap.IsTuple b items2)
    (he : ∀ j (h1 : j < items.size) (h2 : j < items2.size), EqAt A.in1 s items[j] items2[j] (e j)) (hr : ∀ j (h1 : j < items.size) (h2 : j < items2.size), e j = false → RcLt A.in1 s items[j] items2[j] (r j))
    (h : Q (.bool (firstLt e r (decide (items.size < items2.size)) (List.range (min items.size items2.size)))) s) : wpAny (model prog w) A (call (.builtin "tuple.__lt__") [.ref l, .ref b]) Q E s := by
  obtain ⟨⟨cls, dd, data, sl⟩, ho, hc, n, hd⟩ := id hl
  obtain ⟨⟨cls2, dd2, data2, sl2⟩, ho2, hc2, n2, hd2⟩ := id hb
  simp only at hc hd hc2 hd2
  subst hc hd hc2 hd2
  exact call_meets F.slot_tuple_lt ⟨_, ho, rfl⟩ F.entry_tuple_lt (F.args_tuple_lt_2 _ _) (tuple_ltAt l b items items2 n n2 dd dd2 sl sl2 e r) ⟨ho, ho2, he, hr, h⟩
theorem oneLt_tupZ {xs ys : List PyData} {a b : Value} {as bs : List Addr} {Q : Bool → Shared → Prop} (ra : Reads s.heap a (.tuple xs) as) (rb : Reads s.heap b (.tuple ys) bs) (hal : alikeAll xs ys = true)
    (hu : A.units + min (PyData.tuple xs).depth (PyData.tuple ys).depth < cLine) (hq : Q (dataLt (.tuple xs) (.tuple ys)) s) : wpAny (model prog w) A (oneLt' true a b) Q E s := by
  cases ra with
  | @tuple l o vs n _ as₁ h1 h2 h3 h4 =>
    cases rb with
    | @tuple l' o' vs' n' _ bs₁ k1 k2 k3 k4 =>
      have n1 : vs.size = xs.length := by simpa using ReadsAll.length _ _ _ h4
      have n2 : vs'.size = ys.length := by simpa using ReadsAll.length _ _ _ k4
      rw [dataLt_tuple, ← firstLt_toks xs ys hal, ← n1, ← n2] at hq
      rw [oneLt'_eq]
      simp only [if_true]
      refine wpAny_bind (wpAny_cRoomFor (room_here hu) ?_)
      refine wpAny_bind (wpAny_callSpecialIfBound?_slot (T := "tuple") ⟨_, h1, h2⟩ F.slot_tuple_lt (call_tuple_ltZ (e := pairEq xs ys) (r := fun j => dataLt (xs.getD j .none) (ys.getD j .none)) ⟨_, h1, h2, _, h3⟩ ⟨_, k1, k2, _, k3⟩ (fun j j1 j2 => ?_) (fun j j1 j2 hj => ?_) ?_))
      · have := eqAt_alikeAll xs ys A.in1 s vs.toList vs'.toList _ _ h4 k4 hal (room_in hu) j (by simpa using j1) (by simpa using j2)
        simpa using this
      · have := rcLt_alikeAll xs ys A.in1 s vs.toList vs'.toList _ _ h4 k4 hal (room_in hu) j (by simpa using j1) (by simpa using j2) hj
        simpa using this
      · exact wpAny_truthy_bool hq
end
section
variable {M : Model} {A : Around} {E : Value → Shared → Prop} {s : Shared}
def TupAt (h : Heap) (v : Value) (xs : Array Value) : Prop := ∃ a o n, v = .ref a ∧ h.get? a = some o ∧ o.cls = .type "tuple" ∧ o.data = .seq xs n
theorem first_tupZ {v : Value} {xs : Array Value} {Q : Option Value → Shared → Prop} (t : TupAt s.heap v xs) (h : Q xs[0]? s) : wpAny M A (firstOfTuple' v) Q E s := by
  obtain ⟨a, o, n, rfl, ho, hc, hd⟩ := t
  rw [kas_first_eq]
  refine wpAny_bind (Looks.here (show Looks M s.heap (typeOf (.ref a)) o.cls from (Looks.ld ho).andThen .now) ?_)
  rw [hc, if_neg (by first | decide | simp)]
  exact wpAny_bind (listItems_at ho hd (wpAny_pure h))
theorem firsts_anyZ : ∀ (vs : List Value), (∀ v ∈ vs, ∃ xs, TupAt s.heap v xs) → ∃ rs : List (Option Value), ∀ {Q : List (Option Value) → Shared → Prop}, Q rs s → wpAny M A (vs.mapM firstOfTuple') Q E s
  | [], _ => ⟨[], fun h => by rw [List.mapM_nil]; exact wpAny_pure h⟩
  | v :: vs, t => by
    obtain ⟨xs, hx⟩ := t v (.head _)
    obtain ⟨rs, hr⟩ := firsts_anyZ vs fun v hv => t v (.tail _ hv)
    refine ⟨xs[0]? :: rs, fun {Q} h => ?_⟩
    rw [List.mapM_cons]
    exact wpAny_bind (first_tupZ hx (wpAny_bind (hr (Q := fun bs s' => wpAny M A (pure (xs[0]? :: bs)) Q E s') (wpAny_pure h))))
theorem kind_tupZ {v₁ : Value} {rest : List Value} {Q : SortKind → Shared → Prop} (h1 : TupAt s.heap v₁ #[]) (hT : ∀ v ∈ rest, ∃ xs, TupAt s.heap v xs) (h : Q oneType' s) : wpAny M A (keyKind' (v₁ :: rest).toArray) Q E s := by
  obtain ⟨rs, hr⟩ := firsts_anyZ (M := M) (A := A) (E := E) rest hT
  rw [keyKind'_eq, List.mapM_toArray, map_eq_pure_bind]
  refine wpAny_bind (wpAny_bind ?_)
  rw [List.mapM_cons]
  refine wpAny_bind (first_tupZ h1 (wpAny_bind (hr ?_)))
  refine wpAny_pure (wpAny_pure ?_)
  rw [if_neg (by simp), if_neg (by simp)]
  rw [oneTypeOnly'_eq, List.mapM_toArray, map_eq_pure_bind]
  have hty : ∀ v ∈ v₁ :: rest, ∀ (Q' : Value → Shared → Prop), Q' (.type "tuple") s → wpAny M A (typeOf v) Q' E s := fun v hv Q' hq => by
    have ht : ∃ xs, TupAt s.heap v xs := by
      rcases List.mem_cons.mp hv with rfl | hv
      · exact ⟨_, h1⟩
      · exact hT v hv
    obtain ⟨xs, a, o, n, rfl, ho, hc, hd⟩ := ht
    refine Looks.here (show Looks M s.heap (typeOf (.ref a)) o.cls from (Looks.ld ho).andThen .now) ?_
    rw [hc]
    exact hq
  refine wpAny_bind (wpAny_bind (wpAny_bind (kas_mapM (r := .type "tuple") _ hty (wpAny_pure ?_))))
  have hall : ((List.map (fun _ => Value.type "tuple") (v₁ :: rest)).toArray.all fun x => x == Value.type "tuple") = true := by
    simp only [List.all_toArray, List.all_map, List.all_eq_true]
    intro _ _
    rfl
  have h0 : (List.map (fun _ => Value.type "tuple") (v₁ :: rest)).toArray[0]? = some (Value.type "tuple") := by simp
  rw [h0]
  simp only [hall, if_true]
  exact wpAny_pure (wpAny_pure h)
end
section
variable {prog : Program} {w : World} {A : Around} {E : Value → Shared → Prop} {s : Shared}
theorem reads_tupZ {v : Value} {r : List PyData} {as : List Addr} (h : Reads s.heap v (.tuple r) as) : ∃ xs, TupAt s.heap v xs := by
  cases h with
  | @tuple l o vs n _ as₁ h1 h2 h3 h4 => exact ⟨_, l, o, n, rfl, h1, h2, h3⟩
theorem reads_tup0Z {v : Value} {as : List Addr} (h : Reads s.heap v (.tuple []) as) : TupAt s.heap v #[] := by
  cases h with
  | @tuple l o vs n _ as₁ h1 h2 h3 h4 =>
    have n1 : vs.size = 0 := by simpa using ReadsAll.length _ _ _ h4
    obtain rfl : vs = #[] := Array.eq_empty_of_size_eq_zero n1
    exact ⟨l, o, n, rfl, h1, h2, h3⟩
theorem SortsAt.tupZ {vs : List Value} {ds : List PyData} (e : EachIs (fun v d => ∃ as, Reads s.heap v d as) vs (.tuple [] :: ds)) (hal : AllAlike (.tuple [] :: ds)) (ht : ∀ d, d ∈ ds → ∃ r, d = .tuple r) (hu : ∀ d, d ∈ PyData.tuple [] :: ds → A.units + d.depth < cLine) :
    SortsAt prog w A s (dataKind s.heap (.tuple [] :: ds)) vs := by
  have ht2 : ∀ d, d ∈ PyData.tuple [] :: ds → ∃ r, d = .tuple r := fun d hd => by
    rcases List.mem_cons.mp hd with rfl | hd
    · exact ⟨_, rfl⟩
    · exact ht d hd
  refine ⟨fun v hv => ?_, oneType', ?_, fun h2 E Q hq => ?_⟩
  · obtain ⟨d, hd, as, r⟩ := e.left v hv
    exact ⟨_, dataKind_some hal hd r⟩
  · intro E x y a b Q ha hb hq
    obtain ⟨d, as, hd, ra, rfl⟩ := dataKind_inv ha
    obtain ⟨d', as', hd', rb, rfl⟩ := dataKind_inv hb
    have hdd := hal d hd d' hd'
    have hroom : A.units + min d.depth d'.depth < cLine := Nat.lt_of_le_of_lt (Nat.add_le_add_left (Nat.min_le_left _ _) _) (hu d hd)
    obtain ⟨r1, rfl⟩ := ht2 d hd
    obtain ⟨r2, rfl⟩ := ht2 d' hd'
    rw [keyLt'_oneType]
    exact oneLt_tupZ ra rb (by simpa [alike] using hdd) hroom hq
  · cases e with
    | @cons v₁ _ vs _ r1 r2 =>
      obtain ⟨as, r1⟩ := r1
      refine kind_tupZ (reads_tup0Z r1) (fun v hv => ?_) hq
      obtain ⟨d, hd, as, r⟩ := r2.left v hv
      obtain ⟨r', rfl⟩ := ht d hd
      exact reads_tupZ r
end
end PySem.W
namespace PySem.W
open PySem PySem.Calls PyProof.Rows PySem.SeqAt
section
variable {prog : Program} {w : World} {A : Around} {E : Value → Shared → Prop} {s : Shared} {β : Type} {R : Value → β → Prop} {enc : β → PyData} {b0 : β} {bs : List β} {vs : List Value}
theorem sorted_tupZ {l : Addr} {Q : Value → Shared → Prop} (h0 : enc b0 = .tuple []) (ht : ∀ b, b ∈ bs → ∃ r, enc b = .tuple r) (hl : s.heap.IsList l vs.toArray) (e : EachIs R vs (b0 :: bs)) (er : EachIs (fun v b => ∃ as, Reads s.heap v (enc b) as) vs (b0 :: bs)) (hal : AllAlike ((b0 :: bs).map enc)) (hL : (b0 :: bs).length ≤ sizeLine)
    (hu : ∀ b, b ∈ b0 :: bs → A.units + 2 + (enc b).depth < cLine) (h : ∀ out, out.length = (b0 :: bs).length → EachIs R out ((b0 :: bs).mergeSort (dataLe false enc)) → Q (.ref (s.heap.objs.size + 1)) { s with heap := sortedAll s.heap vs (List.toArray out) }) :
    wpAny (model prog w) A (call (.builtin "sorted") [.ref l]) Q E s := by
  have er' : EachIs (fun v b => ∃ as, Reads (sortingHeap (copyHeap s.heap vs) (s.heap.objs.size + 1) vs) v (enc b) as) vs (b0 :: bs) := er.mono fun _ _ ⟨as, r⟩ => ⟨as, PyProof.Rows.Reads.keeps (fun _ _ => sorting_copy_old) r⟩
  have em := each_map (R := fun v d => ∃ as, Reads (sortingHeap (copyHeap s.heap vs) (s.heap.objs.size + 1) vs) v d as) enc er'
  have bm := bound_map (A := A.in1.in1) (enc := enc) (bs := b0 :: bs) hu
  have hal2 := hal
  rw [List.map_cons, h0] at em bm hal2
  refine sorted_vals (κ := dataKind (sortingHeap (copyHeap s.heap vs) (s.heap.objs.size + 1) vs) ((b0 :: bs).map enc)) hl ?_ (by rw [e.length]; exact hL) (h _ (by rw [sortVals_length false rfl]; exact e.length) (sortVals_data false e er' hal))
  rw [List.map_cons, h0]
  refine SortsAt.tupZ (s := { s with heap := sortingHeap (copyHeap s.heap vs) (s.heap.objs.size + 1) vs }) em hal2 (fun d hd => ?_) bm
  obtain ⟨b, hb, rfl⟩ := List.mem_map.mp hd
  exact ht b hb
end
end PySem.W
namespace L2
open PySem PySem.Spec PyProof.Rows PySem.W
section
variable {X : Cx} {pins : List (Addr × Obj)} {σ : St} {H : Hp} {s : Shared}
/-- sorted(xs): the items ascending as tuples are -/
def rSortT0 (K : PySem.W.Frag) : List V → Hp → VK → Prop := fun vs H Q => ∃ (a : Addr) (xs : List V) (bs : List (List Int)), vs = [V.ref a] ∧ SqL K H a xs ∧ Paired (TupI K H) xs ([] :: bs) ∧
  ∀ (ys : List V) (p : Addr), Paired (TupI K H) ys (([] :: bs).mergeSort fun p q => decide (p ≤ q)) → H p = none → Q (.ref p) (upd H p (.lst ys))
theorem cr_sortT0 (hu : X.A.units + 65 < cLine) : CallR X (.builtin "sorted") (rSortT0 X.K) := by
  intro pins s σ H vs us Q I r h
  obtain ⟨a, xs, bs, rfl, hs, hp, q⟩ := h
  obtain ⟨its, rv, hl, hz⟩ := I.list hs
  rw [Vals.ref1 r]
  have e0 : EachIs (TupV X.K H) its ([] :: bs) := tupV_of hp rv
  have hlen : ([] :: bs).length = xs.length := (Paired.length hp).symm
  refine sorted_tupZ (A := X.A) (R := TupV X.K H) (enc := tupE) rfl (fun b _ => ⟨_, rfl⟩) hl.isList e0 (e0.mono fun u ns h => tupV_reads I h) (AllAlike.of fun b b' => by simp [alike, alike_ints]) (by rw [hlen]; exact hz) (fun b _ => ?_) fun out ho eo => ?_
  · have : (tupE b).depth ≤ 1 := by simp [PyData.depth, depth_ints]
    omega
  · rw [tupE_le] at eo
    obtain ⟨e1, e2⟩ := tupV_to eo
    obtain ⟨ep, he'⟩ := PyProof.Rows.sortedAll_at s.heap its out.toArray
    have hz2 : (out.map bkV).length ≤ sizeLine := by
      rw [List.length_map, ho, hlen]
      exact hz
    exact ⟨.ref _, upd H (s.heap.objs.size + 1) (.lst (out.map bkV)), I.laid (t' := s.toks) (fun _ _ => PyProof.Rows.sortedAll_old) (Nat.le_succ _) ⟨hz2, out, ep, bkV_vals e2, he'⟩, rfl, q _ _ e1 (I.hok.fresh (Nat.le_succ _))⟩
end
end L2

set_option Elab.async false
set_option linter.all false
set_option maxRecDepth 100000
set_option maxHeartbeats 4000000
/-! o.m(e, .., k = v, ..); an expression read in one of two ways -/
namespace L2
open PySem PySem.Spec PyProof.Rows PySem.W
/-- a method with keywords -/
def tMethN (C : Addr) (m : Str) (n j : Nat) (sp : Sp) (gV : List V → List V → List V) (E : XK) (ta : TE) (t tk : TA) : TE := fun σ H Q => ta σ H fun x H1 => ∃ a dx fs, x = .ref a ∧ H1 a = some (.ins C dx fs) ∧ fs.lookup m = none ∧
  t σ H1 fun vs H2 => tk σ H2 fun zs H3 => vs.length = n ∧ zs.length = j ∧ sp (gV (x :: vs) zs) H3 Q E
section
variable {X : Cx} {CX : CXT} {k n : Nat} {f C : Addr} {fd : FuncData} {ps ks : List Str} {sp : Sp} {E : XK} {m : Str} {pos apos : Pos} {e o : Expr} {es : List Expr} {kws : List Keyword} {ta : TE} {t tk : TA} {g : List Value → List Value → List Value} {gV : List V → List V → List V}
theorem pe_methN {pl : Sem Bool} (he : PE X o ta) (c : Cls X.K C) (hm : Meth X.K C m f) (F : FnOk X.prog X.w X.K X.mg X.base CX k f fd ps sp) (hr : Room k X.A) (hb : KBn X.K fd ps (n + 1) ks g gV) (hx : Passes CX X E) (ha : PA X (e :: es) t) (hkw : PK X kws tk)
    (hall : (backToKw pos (keywordEach kws X.env)).all (·.1.isSome) = true := by rfl) (hks : (backToKw pos (keywordEach kws X.env)).filterMap (·.1) = ks := by rfl)
    (hst : starEach (e :: es) X.env = (false, eval e X.env) :: starEach es X.env := by rfl) (hpl : ((backTo pos (starEach (e :: es) X.env)).any (·.1) || (backToKw pos (keywordEach kws X.env)).any (·.1.isNone)) = false := by rfl)
    (ht : eval (.Call (.Attribute o m apos) (e :: es) kws pos) X.env = (do
      let ov ← eval o X.env
      standAt apos.atName
      let (f, first) ← holding [ov] (getMethod ov m pl)
      callWith pos f first (backTo pos (starEach (e :: es) X.env)) (backToKw pos (keywordEach kws X.env))) := by rfl) :
    PE X (.Call (.Attribute o m apos) (e :: es) kws pos) (tMethN C m n ks.length sp gV E ta t tk) := by
  refine ⟨fun pins s σ H Q I h => ?_⟩
  refine PySem.W.methodCall_KW (pl := pl) (thn (he.run pins s σ H _ I h) fun u s1 ⟨x, H1, I1, rx, a, dx, fs, ex, ea, l, q⟩ => ?_) ht
  subst ex
  obtain rfl : u = Value.ref a := rx
  refine getmeth_ok I1 ea c hm l ?_
  refine PySem.W.callWith_KW (first := [.ref a]) (h₀ := X.base) I.ok.mod.kin hm.kp hall (thn (ha.run pos pins s1 σ H1 _ I1 q) fun us s2 ⟨vs, H2, I2, r, q2⟩ => ?_) hpl hst
  refine thn (hkw.run pos pins s2 σ H2 _ I2 q2) fun ws s3 ⟨zs, H3, I3, rz, l1, l2, q3⟩ => ⟨I3.kIn, ?_⟩
  rw [hks]
  exact run_fnN (us := .ref a :: us) (vs := .ref a :: vs) F hr hb hx I3 (.cons rfl r) rz (by rw [List.length_cons, l1]) l2 q3
/-- an expression that may be read in two ways -/
theorem pe_two {a : Expr} {t1 t2 : TE} (h1 : PE X a t1) (h2 : PE X a t2) : PE X a (fun σ H Q => t1 σ H Q ∨ t2 σ H Q) :=
  ⟨fun pins s σ H Q I h => h.elim (h1.run pins s σ H Q I) (h2.run pins s σ H Q I)⟩
end
end L2

set_option Elab.async false
set_option linter.all false
set_option maxRecDepth 100000
set_option maxHeartbeats 4000000
/-! zip over two tuples, as a walk; != of own objects of two classes -/
namespace L2
open PySem PySem.Spec PyProof.Rows
theorem walk_zipT {K : PySem.W.Frag} {a b : Addr} {xs ys : List V} {n : Nat} (hn : n = min xs.length ys.length) : Walk (RZ.ItzT K a b) n (fun H => SqT K H a xs ∧ SqT K H b ys) (YPair (fun i => xs[i]?) (fun i => ys[i]?)) := by
  subst hn
  refine ⟨fun i _ hi q => ?_, fun _ q => ⟨xs, ys, q.1, q.2, by omega⟩, fun i H v H' _ q y => ?_⟩
  · have h1 : i < xs.length := by omega
    have h2 : i < ys.length := by omega
    exact ⟨xs, ys, xs[i], ys[i], q.1, q.2, by simp [h1], by simp [h2]⟩
  · obtain ⟨T, x, z, h1, h2, h3, h4, h5⟩ := y
    exact ⟨T, x, z, h1, h2, h3, h4 xs q.1, h5 ys q.2⟩
end L2
namespace Tw
open PySem PySem.Spec PyProof.Rows L2
open PySem.W (InstAt looks_findIn looks_subIn ifBound_K cmp_K)
section
variable {X : Cx} {CX : CXT} {k : Nat} {f C D : Addr} {fd : FuncData} {ps : List Str} {sp : Sp} {E : XK}
/-- != where the other one is an object of another class -/
def rNeD (C D : Addr) (sp : Sp) (E : XK) : R2 := fun x y H Q =>
  ∃ a dx fs b dy gs, x = .ref a ∧ H a = some (.ins C dx fs) ∧ y = .ref b ∧ H b = some (.ins D dy gs) ∧ sp [.ref a, y] H (fun v H' => ∃ r, v = .bl r ∧ Q (.bl (!r)) H') E
theorem op_ne_two (c : EqC X.K C f) (hd : PySem.W.notFirst X.K C (.ref D) = true) (F : FnOk X.prog X.w X.K X.mg X.base CX k f fd ps sp) (hr : Room (k + 1) X.A) (hb : Binds X.K fd ps []) (hx : Passes CX X E) : OpR X (compareOp .NotEq) (rNeD C D sp E) := by
  intro pins s σ H x y v u Q I rx ry ⟨a, dx, fs, b, dy, gs, ex, ha, ey, hb2, q⟩
  subst ex
  subst ey
  obtain rfl : v = Value.ref a := rx
  obtain rfl : u = Value.ref b := ry
  obtain ⟨mA, O, rr, _, _, _⟩ := ins_get I.hok ha
  obtain ⟨od, J, hl⟩ := O.look
  obtain ⟨mB, OB, rrB, _, _, _⟩ := ins_get I.hok hb2
  obtain ⟨odB, JB, hlB⟩ := OB.look
  obtain ⟨m0, hF⟩ := I.fr
  show wpAny _ _ (richCompare .NotEq (.ref a) (.ref b)) _ _ _
  refine ne_K (Room.units0 hr.in1) hr.units0 hF I.ok.mod.kin J JB.type hd c (thn (run_sub F (Sub.in1 ⟨hr, rfl⟩) hb hx I (.cons (relR a) (.cons (relR b) .nil)) q) fun r s' ⟨z, H', I', rz, b2, ez, q'⟩ => ?_)
  subst ez
  exact ⟨b2, rz, _, H', I', relB (!b2), q'⟩
end
end Tw

set_option Elab.async false
set_option linter.all false
set_option maxRecDepth 100000
set_option maxHeartbeats 2000000
/-! own rules: xs.count(k), t.count(k) (whole numbers); sum(d.values()) -/
namespace L2
open PySem PySem.Spec PyProof.Rows L2
theorem plain_ints : ∀ ns : List Int, PyData.plainAll (ns.map PyData.int) = true
  | [] => rfl
  | n :: ns => by
    simp only [List.map_cons, PyData.plainAll, plain_ints ns]
    rfl
theorem count_ints (k : Int) : ∀ ns : List Int, (ns.map PyData.int).countP (fun y => PyData.eqv y (.int k)) = ns.count k
  | [] => rfl
  | n :: ns => by
    rw [List.map_cons, List.countP_cons, count_ints k ns, List.count_cons]
    have e : PyData.eqv (.int n) (.int k) = (n == k) := rfl
    rw [e]
theorem dpAll_ints (K : PySem.W.Frag) (H : Hp) : ∀ ns : List Int, DpAll K H (ns.map V.int) (ns.map PyData.int)
  | [] => .nil
  | n :: ns => .cons (.int n) (dpAll_ints K H ns)
section
variable {X : Cx}
def rCountL (K : PySem.W.Frag) : V → List V → Hp → VK → Prop := fun x vs H Q => ∃ (a : Addr) (ns : List Int) (k : Int), x = .ref a ∧ vs = [.int k] ∧ SqL K H a (ns.map V.int) ∧ Q (.int (ns.count k : Nat)) H
def rCountT (K : PySem.W.Frag) : V → List V → Hp → VK → Prop := fun x vs H Q => ∃ (a : Addr) (ns : List Int) (k : Int), x = .ref a ∧ vs = [.int k] ∧ SqT K H a (ns.map V.int) ∧ Q (.int (ns.count k : Nat)) H
theorem mt_countL (hu : X.A.units + 65 < cLine) : MtR X "list.count" (rCountL X.K) := by
  intro pins s σ H x xs v us Q I rx rxs h
  obtain ⟨a, ns, k, rfl, rfl, hl, q⟩ := h
  cases rx
  cases rxs with
  | cons ry rt =>
    rename_i uy ut
    cases rt
    obtain ⟨its, rv, pl, hlen⟩ := I.list hl
    obtain ⟨as, h4⟩ := Dp.readsAll I (ns.map PyData.int) _ its (dpAll_ints _ _ ns) rv
    obtain ⟨bs, r1⟩ := Dp.reads I (.int k) _ uy (.int k) ry
    refine PySem.SeqAt.count_list_data (xs := ns.map PyData.int) (d := .int k) pl.isList h4 r1 (plain_ints ns) rfl (Nat.lt_of_le_of_lt (Nat.add_le_add_left (Nat.min_le_right _ _) _) (by simp only [PyData.depth]; omega)) ?_
    rw [count_ints]
    exact ⟨.int _, H, I.tok _, ⟨_, rfl⟩, q⟩
theorem mt_countT (hu : X.A.units + 65 < cLine) : MtR X "tuple.count" (rCountT X.K) := by
  intro pins s σ H x xs v us Q I rx rxs h
  obtain ⟨a, ns, k, rfl, rfl, hl, q⟩ := h
  cases rx
  cases rxs with
  | cons ry rt =>
    rename_i uy ut
    cases rt
    obtain ⟨its, rv, pl, hlen⟩ := I.tuple hl
    obtain ⟨as, h4⟩ := Dp.readsAll I (ns.map PyData.int) _ its (dpAll_ints _ _ ns) rv
    obtain ⟨bs, r1⟩ := Dp.reads I (.int k) _ uy (.int k) ry
    refine PySem.SeqAt.count_tuple_data (xs := ns.map PyData.int) (d := .int k) pl h4 r1 (plain_ints ns) rfl (Nat.lt_of_le_of_lt (Nat.add_le_add_left (Nat.min_le_right _ _) _) (by simp only [PyData.depth]; omega)) ?_
    rw [count_ints]
    exact ⟨.int _, H, I.tok _, ⟨_, rfl⟩, q⟩
theorem preSum_list : ∀ (is : List Int) (n : Nat), preSum (fun i => is.getD i 0) n = (is.take n).sum := by
  intro is n
  induction n with
  | zero => rfl
  | succ n ih =>
    rw [preSum, ih]
    by_cases h : n < is.length
    · rw [← List.take_append_getElem h, List.sum_append, List.getD_eq_getElem?_getD, List.getElem?_eq_getElem h]
      simp
    · rw [List.take_of_length_le (by omega), List.take_of_length_le (by omega), List.getD_eq_getElem?_getD, List.getElem?_eq_none (by omega)]
      simp
/-- sum(o.values()), a dict with int values -/
def tSumVals (td : TE) : TE := fun σ H Q => td σ H fun x H1 => ∃ (a : Addr) (kvs : List (Key × V)) (is : List Int), x = V.ref a ∧ H1 a = some (.dK kvs) ∧ kvs.map (·.2) = is.map V.int ∧ Q (.int is.sum) H1
variable {o : Expr} {p pos apos mpos : Pos} {td : TE}
theorem pe_sumVals (hc : X.calm = true) (hg : Gl X "sum") (hm : X.mg "sum" = none) (hd : PE X o td) (hbase : attributeBase o "values" X.env (eval o X.env) = eval o X.env := by rfl) (hline : (apos.endLine == mpos.line) = true := by rfl)
    (hse : starEach [Expr.Call (.Attribute o "values" apos) [] [] mpos] X.env = [(false, eval (Expr.Call (.Attribute o "values" apos) [] [] mpos) X.env)] := by rfl) :
    PE X (.Call (.Name "sum" p) [.Call (.Attribute o "values" apos) [] [] mpos] [] pos) (tSumVals td) := by
  refine ⟨fun pins s σ H Q I h => ?_⟩
  refine wpAny_Call_Name_kw (ld_blt I hg hm (u := .builtin "sum") (by first | rfl | decide +kernel) ?_ (by first | decide +kernel | decide) (by first | decide +kernel | decide))
  rw [hse]
  refine PySem.callWith_builtin1 (wpAny_Call_method0_late hbase hline (thn (hd.run pins s σ H _ I h) fun v s1 ⟨x, H1, I1, r1, a, kvs, is, ex, ha, hv, q⟩ => ?_))
  subst ex
  obtain rfl : v = Value.ref a := r1
  obtain ⟨_, hsys, vs, rel, dof⟩ := dk_of I1.hok ha
  obtain ⟨ep, dat⟩ := dof.dictAt
  have dat' := dat
  obtain ⟨ob, es, ho, ex, hdat, hko, hpr, hnd⟩ := dat'
  refine ⟨"dict", "dict.values", F.plainAttrs_dict, F.slot_dict_values, F.type_dict_values, ⟨ob, ho, ex.1⟩, fun b e => ?_, Calls.callWith_builtin rfl (PySem.evalArgs_none ?_)⟩
  · cases e
    exact ⟨ob, ho, ex.2.1⟩
  refine call_meetsIn F.slot_dict_values ⟨ob, ho, ex.1⟩ F.entry_dict_values (F.args_dict_values_1 _) (meets_dict_values (mixKind X.prog X.w) a hsys) ⟨⟨vs, dof⟩, ?_⟩
  have k1 : ∀ b u, s1.heap.get? b = some u → (s1.heap.push { cls := .type "dict_values", data := .fields #[.ref a] }).get? b = some u := fun b u e => Heap.get?_push_of_some _ e
  have dat1 : (s1.heap.push { cls := .type "dict_values", data := .fields #[.ref a] }).DictAt (mixKind X.prog X.w) a vs ep := dat.keep k1
  have hlv : vs.length = is.length := by
    have e1 := congrArg List.length hv
    rw [List.length_map, List.length_map] at e1
    rw [← e1]
    exact (KV.length rel).symm
  have hval : ∀ (i : Nat) (v : Value), (∃ k, vs[i]? = some (k, v)) → ∃ t, v = Value.int (is.getD i 0) t := fun i v ⟨k, hk⟩ => by
    obtain ⟨x, h1, h2⟩ := KV.at' rel hk
    have e1 : (kvs.map (·.2))[i]? = some x := by rw [List.getElem?_map, h1] <;> rfl
    rw [hv, List.getElem?_map] at e1
    obtain ⟨j, hj, e2⟩ := Option.map_eq_some_iff.mp e1
    subst e2
    obtain ⟨t, e3⟩ := h2
    refine ⟨t, ?_⟩
    rw [e3, List.getD_eq_getElem?_getD, hj] <;> rfl
  refine call_sum_walkG (wpAny_pyIter_values (v := s1.heap.objs.size) (d := a) ⟨_, Heap.get?_push_size _ rfl, rfl, rfl⟩ dat1 ?_)
  have hlt : a < s1.heap.objs.size := Heap.lt_size ho
  have hsz : (s1.heap.push { cls := .type "dict_values", data := .fields #[.ref a] }).objs.size = s1.heap.objs.size + 1 := Heap.size_push _ _
  refine ⟨_, _, _, _, _, _, fun i => is.getD i 0, rfl, Walks.dictValues (knd := mixKind X.prog X.w) (A := X.A.in1) (I.ok.hd hc) (s1.heap.push { cls := .type "dict_values", data := .fields #[.ref a] }).objs.size a (by rw [hsz]; exact Nat.ne_of_lt (Nat.lt_succ_of_lt hlt)) vs ep,
    ⟨⟨_, Heap.get?_push_size _ rfl, rfl, rfl⟩, dat1.keep fun b u e => Heap.get?_push_of_some _ e⟩, fun b hb => ?_, hval, fun h' tk t' hk => ?_⟩
  · show b < ((s1.heap.push _).push _).objs.size
    rw [Heap.size_push, Heap.size_push]
    rw [hsz] at hb
    rcases List.mem_cons.mp hb with e | hb
    · rw [e]
      exact Nat.lt_succ_self _
    · have e : b = a := List.mem_singleton.mp hb
      rw [e]
      exact Nat.lt_succ_of_lt (Nat.lt_succ_of_lt hlt)
  · rw [preSum_list, hlv, List.take_length]
    refine ⟨.int _, H1, I1.kept (t' := tk) fun b u e => hk b u (fun hmem => ?_) (Heap.get?_push_of_some _ (k1 b u e)), ⟨t', rfl⟩, q⟩
    have e1 : b = (s1.heap.push { cls := .type "dict_values", data := .fields #[.ref a] }).objs.size := List.mem_singleton.mp hmem
    have e2 := Heap.lt_size e
    rw [hsz] at e1
    rw [e1] at e2
    exact absurd e2 (Nat.not_lt.mpr (Nat.le_succ _))
end
/-- a dict by a comprehension, over any walk -/
theorem dc_it {J : It} {n : Nat} {G : Hp → Prop} {Y : Nat → Hp → V → Hp → Prop} (w : Walk J n G Y) {g : TG} {tt : TT} {tk tv : TE} {vs : List Nat} {σ : St} {H1 : Hp} {D : Addr} {Qd : Hp → Prop} (Pv : Nat → Hp → Prop) (h0 : Pv 0 (upd H1 D (.dK []))) (hG : ∀ i H, i ≤ n → Pv i H → G H)
    (hs : ∀ i x H H', i < n → Pv i H → Y i H x H' → g x (wipe σ vs) H' fun σ2 H2 => wipe σ2 vs = wipe σ vs ∧ tt σ2 H2 fun b H3 =>
      if b = true then tk σ2 H3 fun y H4 => tv σ2 H4 fun z H5 => ∃ kvs k, y = kV k ∧ H5 D = some (.dK kvs) ∧ kvs.length < sizeLine ∧ Pv (i + 1) (upd H5 D (.dK (putK kvs k z))) else Pv (i + 1) H3) (hd : ∀ H, Pv n H → Qd H) :
    ∃ W : Nat → Nat → Hp → Prop, (∃ m, W 0 m (upd H1 D (.dK []))) ∧ ∀ i m H, W i m H →
      (J.stop i H ∧ Qd H) ∨ (J.go i H ∧ ∃ Nx : Hp → Prop, (∀ H', Nx H' → ∃ m', m' < m ∧ W (i + 1) m' H') ∧ ∀ x H', J.yld i H x H' → g x (wipe σ vs) H' fun σ2 H2 => wipe σ2 vs = wipe σ vs ∧ tt σ2 H2 fun b H3 =>
        if b = true then tk σ2 H3 fun y H4 => tv σ2 H4 fun z H5 => ∃ kvs k, y = kV k ∧ H5 D = some (.dK kvs) ∧ kvs.length < sizeLine ∧ Nx (upd H5 D (.dK (putK kvs k z))) else Nx H3) := by
  refine ⟨fun i m H => m = n - i ∧ i ≤ n ∧ Pv i H, ⟨n, by simp, Nat.zero_le _, h0⟩, ?_⟩
  rintro i m H ⟨rfl, hi, p⟩
  have q := hG i H hi p
  by_cases hlt : i < n
  · refine .inr ⟨w.goes i H hlt q, Pv (i + 1), fun H' p' => ⟨n - (i + 1), by omega, rfl, hlt, p'⟩, fun x H' y => hs i x H H' hlt p (w.yields i H x H' hlt q y)⟩
  · have e : i = n := by omega
    subst e
    exact .inl ⟨w.stops H q, hd H p⟩
/-- what stays while a thing is locked stays behind -/
theorem same_lock {H H' : Hp} {d : Addr} {u v : HO} (h : H d = some u) (s : Same (upd H d v) H') : Same H (upd H' d u) := fun b o e => by
  by_cases hb : b = d
  · subst hb
    rw [upd_same, ← h, e]
  · rw [upd_ne hb]
    exact s b o (by rw [upd_ne hb]; exact e)
theorem ite_b {b c : Bool} {A B : Prop} (h : b = c) (k : if c = true then A else B) : if b = true then A else B := h ▸ k
/-- set(xs), xs a list or a tuple of whole numbers -/
def rSetSq (K : PySem.W.Frag) (w : World) : List V → Hp → VK → Prop := fun xs H Q => ∃ (l : Addr) (ns : List Int), xs = [V.ref l] ∧ (SqL K H l (ns.map V.int) ∨ SqT K H l (ns.map V.int)) ∧ ns.length ≤ 1000 ∧ ∀ p n, n ≤ ns.length → H p = none → Q (.ref p) (upd H p (SetO w p (fun j => decide (j ∈ ns)) n))
theorem cr_setSq {X : Cx} (hc : X.calm = true) : CallR X (.type "set") (rSetSq X.K X.w) := by
  intro pins s σ H vs us Q I rv ⟨l, ns, e, h, hl, q⟩
  rcases h with h | h
  · exact cr_setLI hc pins s σ H vs us Q I rv ⟨l, ns, e, h, hl, q⟩
  · exact cr_setTI hc pins s σ H vs us Q I rv ⟨l, ns, e, h, hl, q⟩
end L2

set_option Elab.async false
set_option linter.all false
set_option maxRecDepth 100000
set_option maxHeartbeats 2000000
/-! own rules: tuples of which it is known that they have no dict of their own: their methods -/
namespace L2
open PySem PySem.Spec PyProof.Rows L2
/-- a tuple that was made by tuple(..), with the object that it is -/
def TupF (H : Hp) (a : Addr) (xs : List V) : Prop := ∃ o : Obj, H a = some (.frz o (.tup xs)) ∧ o.dict = none
theorem TupF.same {H H' : Hp} {a : Addr} {xs : List V} (h : TupF H a xs) (s : Same H H') : TupF H' a xs := let ⟨o, e, d⟩ := h; ⟨o, s _ _ e, d⟩
theorem TupF.sq {K : PySem.W.Frag} {H : Hp} {a : Addr} {xs : List V} (h : TupF H a xs) : SqT K H a xs := let ⟨o, e, _⟩ := h; .inl (.inr ⟨o, e⟩)
section
variable {X : Cx}
/-- tuple(xs) of a list; of such a tuple itself -/
def rTupF (K : PySem.W.Frag) : List V → Hp → VK → Prop := fun xs H Q => ∃ p ys, xs = [V.ref p] ∧ ((SqL K H p ys ∧ ∀ l o, H l = none → o.dict = none → Q (.ref l) (upd H l (.frz o (.tup ys)))) ∨ (SqT K H p ys ∧ Q (.ref p) H))
theorem call_tupF : CallR X (.type "tuple") (rTupF X.K) := by
  intro pins s σ H xs us Q I r h
  obtain ⟨p, ys, rfl, h⟩ := h
  rcases h with ⟨hq, q⟩ | ⟨hq, q⟩
  · obtain ⟨u, rfl, rx⟩ := vals1 r
    cases rx
    obtain ⟨its, r', pl, hz⟩ := I.list hq
    have hlen := r'.length
    refine call_tuple_list pl.isList (fun h' kp => ?_) (by simp only [List.size_toArray] <;> omega)
    have I1 : Inv X pins σ H { s with heap := h' } := I.kept (t' := s.toks) kp
    have I2 : Inv X pins σ (upd H h'.objs.size (.frz { cls := .type "tuple", data := .seq its.toArray } (.tup ys))) { s with heap := h'.push { cls := .type "tuple", data := .seq its.toArray } } :=
      I1.laid (t' := s.toks) (fun b o e => Heap.get?_push_of_some _ e) (Nat.le_refl _) (show ObjOk X.prog X.w _ _ _ (.frz _ (.tup ys)) from ⟨Heap.get?_push_size _ rfl, hz, its, r', IsTup.new _ _⟩)
    exact ⟨.ref h'.objs.size, _, I2, rfl, q _ _ (I1.hok.fresh (Nat.le_refl _)) rfl⟩
  · exact call_tuple_of pins s σ H _ us Q I r ⟨p, ys, rfl, .inr ⟨hq, q⟩⟩
def tBMF (r : V → List V → Hp → VK → Prop) (to : TE) (t : TA) : TE := fun σ H Q => to σ H fun x H1 => (∃ a xs, x = .ref a ∧ TupF H1 a xs) ∧ t σ H1 fun xs H2 => r x xs H2 Q
variable {o e : Expr} {es : List Expr} {to : TE} {t : TA} {name : Str} {apos cpos : Pos} {T id : String} {r : V → List V → Hp → VK → Prop}
theorem pe_bmF (slot : Slot "tuple" name id) (hty : typeOf (.builtin id) = pure (.type "method_descriptor")) (hm : MtR X id r) (ho : PE X o to) (ha : PA X (e :: es) t)
    (hbase : attributeBase o name X.env (eval o X.env) = eval o X.env := by rfl)
    (hfew : ((backTo cpos (starEach (e :: es) X.env)).all (fun x => !x.1) && (backToKw cpos (keywordEach [] X.env)).all (fun x => x.1.isSome)
      && decide ((e :: es).length + ([] : List Keyword).length + (if ([] : List Keyword).isEmpty then 0 else 1) < 30)) = true := by rfl)
    (hline : (apos.endLine == cpos.line) = true := by rfl) (hs : starEach (e :: es) X.env = (false, eval e X.env) :: starEach es X.env := by rfl) (hplain : (backTo cpos (starEach es X.env)).any (·.1) = false := by rfl) :
    PE X (.Call (.Attribute o name apos) (e :: es) [] cpos) (tBMF r to t) := by
  refine ⟨fun pins s σ H Q I h => ?_⟩
  refine wpAny_Call_method_late hbase hfew hline rfl (thn (ho.run pins s σ H _ I h) fun v s1 ⟨x, H1, I1, r1, ty, q1⟩ => ?_)
  obtain ⟨a, xs, rfl, oo, ho2, hd⟩ := ty
  cases r1
  obtain ⟨g1, g2⟩ := I1.hok a _ ho2
  obtain ⟨hz, its, rv, hit⟩ := g2
  obtain ⟨o2, e2, hc, n2, hdat⟩ := hit
  rw [g1] at e2
  cases e2
  refine ⟨"tuple", id, F.plainAttrs_tuple, slot, hty, ⟨_, g1, hc⟩, fun b eb => ?_, ?_⟩
  · cases eb
    exact ⟨_, g1, hd⟩
  have hA := ha.run cpos pins s1 σ H1 _ I1 q1
  rw [hs] at hA ⊢
  refine Calls.callWith_builtin (by show (false || (backTo cpos (starEach es X.env)).any (·.1)) = false; rw [hplain] <;> rfl) (Calls.evalArgs_plain ?_)
  exact thn hA fun us s2 ⟨vs, H2, I2, r2, q2⟩ => hm pins s2 σ H2 (.ref a) vs _ us Q I2 (show RelV (.ref a) (Value.ref a) from rfl) r2 q2
theorem lay_ints : ∀ ns : List Int, PyData.canLayAll0 (ns.map PyData.int) = true
  | [] => rfl
  | n :: ns => by
    rw [List.map_cons, PyData.canLayAll0, lay_ints ns]
    rfl
/-- t.index(k), whole numbers, k there -/
def rIndexT (K : PySem.W.Frag) : V → List V → Hp → VK → Prop := fun x vs H Q => ∃ (a : Addr) (ns : List Int) (k : Int) (j : Nat), x = .ref a ∧ vs = [.int k] ∧ SqT K H a (ns.map V.int) ∧ ns[j]? = some k ∧ (∀ m, m < j → ns[m]? ≠ some k) ∧ Q (.int (j : Nat)) H
theorem mt_indexTI (hu : X.A.units + 65 < cLine) : MtR X "tuple.index" (rIndexT X.K) := by
  intro pins s σ H x xs v us Q I rx rxs h
  obtain ⟨a, ns, k, j, rfl, rfl, hl, hj, hno, q⟩ := h
  cases rx
  cases rxs with
  | cons ry rt =>
    rename_i uy ut
    cases rt
    obtain ⟨its, rv, pl, hlen⟩ := I.tuple hl
    obtain ⟨as, h4⟩ := Dp.readsAll I (ns.map PyData.int) _ its (dpAll_ints _ _ ns) rv
    obtain ⟨bs, r1⟩ := Dp.reads I (.int k) _ uy (.int k) ry
    have hjl := (List.getElem?_eq_some_iff.mp hj).1
    have hvl := rv.length
    rw [List.length_map] at hvl hlen
    obtain ⟨⟨cls, dd, data, sl⟩, ho, hc, n, hd'⟩ := id pl
    simp only at hc hd'
    subst hc hd'
    have hxs : PyData.canLayAll0 (ns.map PyData.int) = true := lay_ints ns
    have hmap : its.map (SeqAt.readOf s.heap) = ns.map PyData.int := SeqAt.readsAll_map _ its as hxs h4
    have at_ : ∀ (m : Nat) (hm : m < its.toArray.size) (z : Int), ns[m]? = some z → SeqAt.readOf s.heap its.toArray[m] = .int z := by
      intro m hm z hz
      have hml : m < its.length := by simpa using hm
      have e1 : (its.map (SeqAt.readOf s.heap))[m]? = some (.int z) := by rw [hmap, List.getElem?_map, hz]; rfl
      rw [List.getElem?_map, List.getElem?_eq_getElem hml] at e1
      have e2 : SeqAt.readOf s.heap its[m] = .int z := Option.some.inj e1
      simpa using e2
    have hj2 : j < its.toArray.size := by simp only [List.size_toArray]; omega
    refine call_meets F.slot_tuple_index ⟨_, ho, rfl⟩ F.entry_tuple_index (F.args_tuple_index_2 _ _)
      (TI.tuple_indexAt a its.toArray n dd sl uy (fun u => PyData.eqv (SeqAt.readOf s.heap u) (.int k)) j hj2 ?_ ?_) ⟨ho, SeqAt.items_eqAt (vs := its.toArray) (show ReadsAll s.heap its.toArray.toList (ns.map PyData.int) as from h4) r1 hxs rfl (Nat.lt_of_le_of_lt (Nat.add_le_add_left (Nat.min_le_right _ _) _) (by simp only [PyData.depth]; omega)), ?_⟩
    · show PyData.eqv (SeqAt.readOf s.heap its.toArray[j]) (.int k) = true
      rw [at_ j hj2 k hj]
      show (k == k) = true
      exact beq_self_eq_true k
    · intro m hm hmj
      have hmn : m < ns.length := by simp only [List.size_toArray] at hm; omega
      have hz : ns[m]? = some ns[m] := List.getElem?_eq_getElem hmn
      show PyData.eqv (SeqAt.readOf s.heap its.toArray[m]) (.int k) = false
      rw [at_ m hm _ hz]
      show (ns[m] == k) = false
      exact beq_eq_false_iff_ne.mpr fun z => hno m hmj (by rw [hz, z])
    · exact ⟨.int (j : Nat), H, I.tok _, ⟨_, rfl⟩, q⟩
/-- x.count(y), two names, x a list or a known tuple of whole numbers -/
def tCnt (K : PySem.W.Frag) (i j : Nat) : TE := fun σ H Q => ∃ (a : Addr) (ns : List Int) (k : Int), σ[i]? = some (some (.ref a)) ∧ σ[j]? = some (some (.int k)) ∧ (SqL K H a (ns.map V.int) ∨ TupF H a (ns.map V.int)) ∧ Q (.int (ns.count k : Nat)) H
theorem pe_cnt {e : Expr} {i j : Nat} (h1 : PE X e (tBM X.K "list" (rCountL X.K) (tVar i) (tCons (tVar j) tNil))) (h2 : PE X e (tBMF (rCountT X.K) (tVar i) (tCons (tVar j) tNil))) : PE X e (tCnt X.K i j) := by
  refine ⟨fun pins s σ H Q I h => ?_⟩
  obtain ⟨a, ns, k, e1, e2, h, q⟩ := h
  rcases h with h | h
  · exact h1.run pins s σ H Q I ⟨_, e1, .inl ⟨rfl, _, h⟩, _, e2, a, ns, k, rfl, rfl, h, q⟩
  · exact h2.run pins s σ H Q I ⟨_, e1, ⟨a, _, rfl, h⟩, _, e2, a, ns, k, rfl, rfl, h.sq, q⟩
end
/-- two promises of one def -/
theorem FnOk.or {P : Program} {w : World} {K : PySem.W.Frag} {mg : Str → Option Value} {base : Heap} {CX : CXT} {k : Nat} {f : Addr} {fd : FuncData} {ps : List Str} {s1 s2 : Sp} (F1 : FnOk P w K mg base CX k f fd ps s1) (F2 : FnOk P w K mg base CX k f fd ps s2) :
    FnOk P w K mg base CX k f fd ps (fun vs H Q E => s1 vs H Q E ∨ s2 vs H Q E) := by
  refine ⟨fun vs H Q E h => h.elim (F1.len vs H Q E) (F2.len vs H Q E), ?_⟩
  intro A outer s H args us vs Q E hr e b
  have h1 := F1.run A outer s H args us vs Q E hr e b
  have h2 := F2.run A outer s H args us vs Q E hr e b
  intros
  first
    | (rename_i h; exact h.elim (fun z => h1 (by assumption) z) (fun z => h2 (by assumption) z))
    | (rename_i h; exact h.elim h1 h2)
end L2

set_option Elab.async false
set_option linter.all false
set_option maxRecDepth 100000
set_option maxHeartbeats 2000000
/-! own rules: tuple(xs), xs a list or a tuple, in one reading -/
namespace L2
open PySem PySem.Spec PyProof.Rows L2
def rTupU : List V → Hp → VK → Prop := fun xs H Q => ∃ p ys, xs = [V.ref p] ∧ (H p = some (.lst ys) ∨ H p = some (.tup ys)) ∧ ∀ t H', Same H H' → H' t = some (.tup ys) → Q (.ref t) H'
theorem call_tupU {X : Cx} : CallR X (.type "tuple") rTupU := by
  intro pins s σ H xs us Q I r ⟨p, ys, e, h, q⟩
  rcases h with h | h
  · exact call_tuple_of pins s σ H xs us Q I r ⟨p, ys, e, .inl ⟨SqL.of h, fun l nl => q l _ (fun b o e => by rw [upd_ne (ne_of_none e nl)]; exact e) upd_same⟩⟩
  · exact call_tuple_of pins s σ H xs us Q I r ⟨p, ys, e, .inr ⟨SqT.of h, q p H (Same.refl _) h⟩⟩
def rCatU : R2 := fun x y H Q => ∃ a b xs ys, x = .ref a ∧ y = .ref b ∧ H a = some (.tup xs) ∧ H b = some (.tup ys) ∧ xs.length + ys.length ≤ sizeLine ∧ ∀ t H', Same H H' → H' t = some (.tup (xs ++ ys)) → Q (.ref t) H'
theorem op_catU {X : Cx} : OpR X (binaryOp .Add) rCatU := by
  intro pins s σ H x y v u Q I rx ry h
  obtain ⟨a, b, xs, ys, ex, ey, ha, hb, hz, q⟩ := h
  refine op_catA pins s σ H x y v u Q I rx ry ⟨a, b, xs, ys, ex, ey, SqT.of ha, SqT.of hb, hz, fun e => ?_, fun _ e => ?_, fun _ _ p np => q p _ (fun b o e => by rw [upd_ne (ne_of_none e np)]; exact e) upd_same⟩
  · exact q b H (fun _ _ e => e) (by rw [e]; exact hb)
  · exact q a H (fun _ _ e => e) (by rw [e, List.append_nil]; exact ha)
def rSlU : V → Option Int → Option Int → Hp → VK → Prop := fun x lo hi H Q => ∃ a xs, x = .ref a ∧ H a = some (.tup xs) ∧ ∀ (p : Addr) (H' : Hp), Same H H' → H' p = some (.tup (cutV xs lo hi)) → Q (.ref p) H'
theorem sl_tupU {X : Cx} : SlR X rSlU := by
  intro pins s σ H x v vl vu lo hi sl Q I rx hs pl pu h
  obtain ⟨a, xs, ex, hx, q⟩ := h
  refine sl_tupA pins s σ H x v vl vu lo hi sl Q I rx hs pl pu ⟨a, xs, ex, SqT.of hx, fun y => ?_, fun _ p np => q p _ (fun b o e => by rw [upd_ne (ne_of_none e np)]; exact e) upd_same⟩
  refine q a H (fun _ _ e => e) ?_
  have : cutV xs lo hi = xs := by
    unfold cutV
    rw [y.1, y.2, List.drop_zero, Nat.sub_zero, List.take_length]
  rw [this]
  exact hx
end L2
namespace Tw
open PySem PySem.Spec PyProof.Rows L2 PySem.W
section
variable {X : Cx} {CX : CXT} {k : Nat} {f C D : Addr} {fd : FuncData} {ps : List Str} {sp : Sp} {E : XK}
theorem op_eq_two (c : EqC X.K C f) (hd : PySem.W.notFirst X.K C (.ref D) = true) (F : FnOk X.prog X.w X.K X.mg X.base CX k f fd ps sp) (hr : Room k X.A) (hb : Binds X.K fd ps []) (hx : Passes CX X E) : OpR X (compareOp .Eq) (fun x y H Q =>
  ∃ a dx fs b dy gs, x = .ref a ∧ H a = some (.ins C dx fs) ∧ y = .ref b ∧ H b = some (.ins D dy gs) ∧ sp [.ref a, y] H (fun v H' => ∃ r, v = .bl r ∧ Q (.bl r) H') E) := by
  intro pins s σ H x y v u Q I rx ry ⟨a, dx, fs, b, dy, gs, ex, ha, ey, hb2, q⟩
  subst ex
  subst ey
  obtain rfl : v = Value.ref a := rx
  obtain rfl : u = Value.ref b := ry
  obtain ⟨mA, O, rr, _, _, _⟩ := ins_get I.hok ha
  obtain ⟨od, J, hl⟩ := O.look
  obtain ⟨mB, OB, rrB, _, _, _⟩ := ins_get I.hok hb2
  obtain ⟨odB, JB, hlB⟩ := OB.look
  obtain ⟨m0, hF⟩ := I.fr
  show wpAny _ _ (richCompare .Eq (.ref a) (.ref b)) _ _ _
  refine cmp_K hr.units0 hF I.ok.mod.kin J JB.type hd c.eq c.fn (thn (run_sub F ⟨hr, rfl⟩ hb hx I (.cons (relR a) (.cons (relR b) .nil)) q) fun r s' ⟨z, H', I', rz, b2, ez, q'⟩ => ?_)
  subst ez
  obtain rfl : r = Value.bool b2 := rz
  exact ⟨_, H', I', relB b2, q'⟩
end
end Tw

set_option Elab.async false
set_option linter.all false
set_option maxRecDepth 100000
set_option maxHeartbeats 2000000
/-! own rules: min(xs, key=lambda x: ys[x]), ys a tuple, a name of the def; t[::-1], t a tuple -/
namespace Cl
open PySem PySem.Spec PyProof.Rows L2 LamX
theorem tuple_getitem_lookup : typeLookup (Value.type "tuple") (Str.ofString "__getitem__") = pure (some (Value.builtin "tuple.__getitem__")) := rfl
section
variable {prog : Program} {w : World} {A : Around} {E : Value → Shared → Prop} {s : Shared}
theorem seqT {i : Int} {vs : List Value} {u : Value} (h0 : 0 ≤ i) (h : vs[i.toNat]? = some u) : seqIndex? i vs.toArray.size = some i.toNat := by
  have hl := (List.getElem?_eq_some_iff.mp h).1
  unfold seqIndex?
  have e : vs.toArray.size = vs.length := by simp
  rw [e, if_neg (show ¬ i < 0 by omega)]
  show (if (decide (0 ≤ i) && decide (i < (vs.length : Int))) = true then some i.toNat else none) = _
  rw [decide_eq_true h0, decide_eq_true (show i < (vs.length : Int) by omega)]
  rfl
/-- lambda x: y[x], called with an int -/
theorem lam_ixT {f l c' ck : Addr} {q x y : Str} {params : Arguments} {p1 p2 p3 : Pos} {scope : Scope} {cl : List (Str × Addr)} {pm ctv u : Value} {vs : List Value} {i : Int} {t : Tok} {Q : Value → Shared → Prop}
    (S : LSc scope x y) (hd : A.depth < recursionLimit) (hf : s.heap.get? f = some (PySem.W.kla_obj "<lambda>" q params (.Subscript (.Name y p1) (.Name x p2) p3) scope cl pm c' ctv))
    (hbind : ∀ v : Value, bindArgs (PySem.W.kla_fn "<lambda>" q params (.Subscript (.Name y p1) (.Name x p2) p3) scope cl pm (.ref c') ctv) ⟨[v], []⟩ = pure [(x, v)])
    (hcode : ∃ (oc : Obj) (us : Array Value) (tk : Tok), s.heap.get? c' = some oc ∧ oc.data = .fields us ∧ us[1]? = some (.str q tk)) (hlim : s.heap.NoLimit)
    (hck : cl.lookup y = some ck) (hcell : s.heap.IsCell ck (some (.ref l))) (hl : IsTup s.heap l vs.toArray) (h0 : 0 ≤ i) (h1 : i < 2 ^ 63) (hi : vs[i.toNat]? = some u)
    (hdx : (x == ("__debug__" : Str)) = false) (hdy : (y == ("__debug__" : Str)) = false) (hcy : (y == ("__classdict__" : Str)) = false)
    (h : ∀ h' tk, s.toks ≤ tk → (∀ b o, s.heap.get? b = some o → h'.get? b = some o) → Q u { s with heap := h', toks := tk }) : wpAny (model prog w) A (call (.ref f) [.int i t]) Q E s := by
  obtain ⟨oc, us, tq, hoc, hdc, hvc⟩ := hcode
  refine wpAny_call (PySem.W.kla_callFunE hd hf rfl S.co S.gen rfl ⟨c', oc, us, tq, rfl, hoc, hdc, hvc⟩ ?_)
  rw [hbind]
  refine wpAny_pure (wpAny_newFunctionEnv S.nocell (fun z hz => by rw [List.mem_singleton.mp hz]; exact S.px) (fun h₁ hns hsb => ⟨hlim.fresh _ hsb, ?_⟩) S.kind)
  have kp : ∀ b o, s.heap.get? b = some o → h₁.get? b = some o := fun b o e => hsb.extBut b o (Nat.ne_of_lt (Heap.lt_size e)) (Heap.get?_push_of_some _ e)
  refine PySem.W.kla_codeExpr ?_
  refine wpAny_Subscript_Name tuple_getitem_lookup ?_
  refine wpAny_Name (wpAny_loadName_free S.kind S.fy hck (hcell.keeps kp) ?_ hcy) hdy
  refine wpAny_Name (wpAny_loadName_local S.kind S.px hns (v := .int i t) ?_ ?_) hdx
  · simp [List.lookup]
  · have hl' : IsTup h₁ l vs.toArray := hl.keeps kp
    refine ⟨hl'.typeIs, getItem_tuple hl' (by omega) h1 (j := i.toNat) (seqT h0 hi) (by simpa using hi) ?_⟩
    exact h h₁ _ (by show s.toks ≤ s.toks + _; omega) kp
/-- what a lambda x: y[x] is, and what it reads -/
structure LamAtT (h : Heap) (f : Addr) (x y : Str) (q : Str) (params : Arguments) (p1 p2 p3 : Pos) (scope : Scope) (cl : List (Str × Addr)) (pm ctv : Value) (c' ck l : Addr) (us : List Value) : Prop where
  fn : h.get? f = some (PySem.W.kla_obj "<lambda>" q params (.Subscript (.Name y p1) (.Name x p2) p3) scope cl pm c' ctv)
  code : ∃ (oc : Obj) (us : Array Value) (tk : Tok), h.get? c' = some oc ∧ oc.data = .fields us ∧ us[1]? = some (.str q tk)
  lim : h.NoLimit
  hck : cl.lookup y = some ck
  cell : h.IsCell ck (some (.ref l))
  lst : IsTup h l us.toArray
theorem LamAtT.keeps {h h' : Heap} {f : Addr} {x y : Str} {q : Str} {params : Arguments} {p1 p2 p3 : Pos} {scope : Scope} {cl : List (Str × Addr)} {pm ctv : Value} {c' ck l : Addr} {us : List Value}
    (L : LamAtT h f x y q params p1 p2 p3 scope cl pm ctv c' ck l us) (k : ∀ b o, h.get? b = some o → h'.get? b = some o) : LamAtT h' f x y q params p1 p2 p3 scope cl pm ctv c' ck l us :=
  ⟨k _ _ L.fn, let ⟨oc, us, tk, a, b, c⟩ := L.code; ⟨oc, us, tk, k _ _ a, b, c⟩, L.lim.keeps k, L.hck, L.cell.keeps k, L.lst.keeps k⟩
theorem min_lamT {f a l c' ck : Addr} {q x y : Str} {params : Arguments} {p1 p2 p3 : Pos} {scope : Scope} {cl : List (Str × Addr)} {pm ctv : Value} {cs us : List Value} {ns : Nat → Int} {kf : Nat → Int} {Q : Value → Shared → Prop}
    (hh : A.handled = none) (S : LSc scope x y) (hd : A.depth < recursionLimit) (L : LamAtT s.heap f x y q params p1 p2 p3 scope cl pm ctv c' ck l us)
    (hbind : ∀ v : Value, bindArgs (PySem.W.kla_fn "<lambda>" q params (.Subscript (.Name y p1) (.Name x p2) p3) scope cl pm (.ref c') ctv) ⟨[v], []⟩ = pure [(x, v)])
    (hdx : (x == ("__debug__" : Str)) = false) (hdy : (y == ("__debug__" : Str)) = false) (hcy : (y == ("__classdict__" : Str)) = false)
    (ht : s.heap.IsTuple a cs.toArray) (hc : ∀ i, i < cs.length → ∃ t, cs[i]? = some (.int (ns i) t)) (hne : 0 < cs.length)
    (hk : ∀ i, i < cs.length → 0 ≤ ns i ∧ ns i < 2 ^ 63 ∧ ∃ t, us[(ns i).toNat]? = some (.int (kf i) t))
    (h : ∀ v h' tk, cs[argBest (fun i j => decide (kf i < kf j)) (cs.length - 1)]? = some v → (∀ b o, s.heap.get? b = some o → h'.get? b = some o) → Q v { s with heap := h', toks := tk }) :
    wpAny (model prog w) A (call (.builtin "min") [.ref a] [(Str.ofString "key", .ref f)]) Q E s := by
  have hd1 : A.in1.depth < recursionLimit := hd
  refine call_min_walkK (PySem.W.iter_tupleW (A := A.in1) hh ht fun s₂ e2 W st hfp hfr kp2 => ?_)
  have sz2 : s.heap.objs.size < s₂.heap.objs.size := hfp _ List.mem_cons_self
  have old : ∀ {s' : Shared}, Moved [s₂.heap.objs.size, s.heap.objs.size] (fun a b => b = a) s₂ s' → ∀ b o, s.heap.get? b = some o → s'.heap.get? b = some o := fun {s'} m b o e => by
    have lt := Heap.lt_size e
    refine m.heap b o (fun hm => ?_) (kp2 b o e)
    rcases List.mem_cons.mp hm with z | hm
    · rw [z] at lt
      exact Nat.lt_irrefl _ (Nat.lt_trans lt sz2)
    · rw [List.mem_singleton.mp hm] at lt
      exact Nat.lt_irrefl _ lt
  have szc : cs.toArray.size = cs.length := by simp
  refine ⟨s.heap.objs.size, [s.heap.objs.size, a], [s.heap.objs.size], (fun a b => b = a), cs.toArray.size, _, _, fun s' => Moved [s₂.heap.objs.size, s.heap.objs.size] (fun a b => b = a) s₂ s', fun i k _ => ∃ t, k = .int (kf i) t, fun i j => decide (kf i < kf j), rfl, W, st, hfp, by rw [szc]; exact hne, ⟨?_, ?_, ?_, ?_⟩, Moved.refl fun _ => rfl, ?_⟩
  · exact fun s1 s' J m => J.trans (fun _ _ _ h1 h2 => h2.trans h1) m
  · exact fun i k s1 s' v _ => v
  · intro i v s1 o Q' E' hi hP J stI hS cont
    rw [szc] at hi
    obtain ⟨t, ec⟩ := hc i hi
    have ev : v = .int (ns i) t := by
      have hP' : cs[i]? = some v := by simpa using hP
      rw [ec] at hP'
      exact (Option.some.inj hP').symm
    subst ev
    obtain ⟨h0, h1, tk, eu⟩ := hk i hi
    have L1 := L.keeps (old J)
    refine lam_ixT S hd1 L1.fn hbind L1.code L1.lim L1.hck L1.cell L1.lst h0 h1 eu hdx hdy hcy fun h' tk' hle kp => ?_
    exact cont _ _ (J.then_heap hle fun b o _ e => kp b o e) (W.frame _ s1 h' tk' stI hle fun b _ o e => kp b o e) (kp _ _ hS) ⟨_, rfl⟩ fun j k' z => z
  · intro i j ki kj s1 Q' E' J vi vj q
    exact CmpOf.ints_lt (prog := prog) (w := w) (A := A.in1) (P := fun i v => ∃ t, v = .int (kf i) t) kf (fun i v h => h) i j ki kj s1 Q' E' vi vj q
  · intro v s' hP J
    rw [szc] at hP
    have hP' : cs[argBest (fun i j => decide (kf i < kf j)) (cs.length - 1)]? = some v := by simpa using hP
    have e : s' = { s with heap := s'.heap, toks := s'.toks } := by
      obtain ⟨hp, g, d, tk, os⟩ := s'
      subst e2
      have h1 : g = s.gens := J.gens
      have h2 : d = s.drawn := J.drawn
      have h3 : os = s.os := J.os
      subst h1 h2 h3
      rfl
    rw [e]
    exact h v s'.heap s'.toks hP' (old J)
end
section
variable {X : Cx}
def tMinLamT (K : PySem.W.Frag) (T : List (Addr × Str)) (j : Nat) (te : TE) : TE := fun σ H Q => te σ H fun v H1 => ∃ (a l : Addr) (ns ks : List Int), v = .ref a ∧ SqT K H1 a (ns.map V.int) ∧ σ[j]? = some (some (.ref l)) ∧ SqT K H1 l (ks.map V.int) ∧ 0 < ns.length ∧ (∀ n ∈ ns, 0 ≤ n ∧ n < ks.length) ∧
  Tabs T H1 ∧ ∀ (m : Int) (H2 : Hp), ExtN H1 H2 → Tabs T H2 → LeastAt ks ns m → Q (.int m) H2
/-- min(e, key=lambda x: y[x]), y a name of the def that it shares with the lambda -/
theorem pe_minlamT {T : List (Addr × Str)} {c P : Addr} {p p1 p2 p3 lpos kpos pos : Pos} {e : Expr} {te : TE} {x y : Str} {j : Nat} {params : Arguments} {scope : Scope}
    (hg : Gl X "min") (hm : X.mg "min" = none) (he : PE X e te) (hd : X.A.depth < recursionLimit) (hh : X.A.handled = none) (TB : TabB X.base X.mg c P) (hcode : X.env.code = .ref c) (hmT : (P, X.env.qual ++ "<lambda>") ∈ T)
    (hu : ∀ q ∈ T, q.1 = P → q.2 = X.env.qual ++ "<lambda>") (S : LSc scope x y) (hfy : X.env.scope.names.lookup y = some .cell) (hfr : ∀ z ∈ scope.names, z.2 = .free → z.1 = y) (hN : X.N[j]? = some y) (hdef : defaultsOf params X.env = ([], []))
    (hbind : ∀ (q : Str) (cl : List (Str × Addr)) (pm cv ctv v : Value), bindArgs (PySem.W.kla_fn "<lambda>" q params (.Subscript (.Name y p1) (.Name x p2) p3) scope cl pm cv ctv) ⟨[v], []⟩ = pure [(x, v)])
    (hs : starEach [e] X.env = (false, eval e X.env) :: starEach [] X.env := by rfl)
    (hdx : (x == ("__debug__" : Str)) = false := by decide) (hdy : (y == ("__debug__" : Str)) = false := by decide) (hcy : (y == ("__classdict__" : Str)) = false := by decide) :
    PE X (.Call (.Name "min" p) [e] [⟨some "key", .Lambda params (.Subscript (.Name y p1) (.Name x p2) p3) scope lpos, kpos⟩] pos) (tMinLamT X.K T j te) := by
  refine ⟨fun pins s σ H Q I h => ?_⟩
  have hfree : ∀ z ∈ scope.names, z.2 = .free → ∃ c, X.env.cells.lookup z.1 = some c := fun z hz e => I.ok.has _ (.inl (by rw [hfr z hz e]; exact hfy))
  refine wpAny_Call_Name_kw (ld_blt I hg hm (u := .builtin "min") (by decide +kernel) ?_)
  refine PyProof.Rows.callWith_kw ?_ (by rw [hs]; rfl) (by rw [hs]; rfl) (by rfl) (by rfl)
  rw [hs]
  show wpAny _ _ (spliced ((false, eval e X.env) :: backTo pos (starEach [] X.env))) _ _ s
  refine Calls.spliced_cons (thn (he.run pins s σ H _ I h) fun u s1 ⟨v, H1, I1, r1, a, l, ns, ks, ev, ht, hσ, hl, hne, hin, hT, q⟩ => Calls.spliced_nil ?_)
  subst ev
  obtain rfl : u = Value.ref a := r1
  show wpAny _ _ (evalAll ((do let v ← eval (.Lambda params (.Subscript (.Name y p1) (.Name x p2) p3) scope lpos) X.env; standAt pos; pure v) :: [])) _ _ s1
  refine wpAny_evalAll_cons (wpAny_bind (lam_make2 I1 TB hcode hmT hu hT hdef hfree fun f c' pm ctv H2 s2 I2 eN T2 hf hfn hff hco => wpAny_bind (wpAny_standAt (wpAny_pure (wpAny_evalAll_nil ?_)))))
  show wpAny _ _ (call (.builtin "min") [.ref a] [(Str.ofString "key", .ref f)]) _ _ s2
  obtain ⟨cs, rc, tc, _⟩ := I2.tuple (eN.sqT ht)
  obtain ⟨us, ru, pl, hz2⟩ := I2.tuple (eN.sqT hl)
  obtain ⟨m, _, look⟩ := I2.loc
  obtain ⟨u0, r0, lk⟩ := look j y _ hN hσ (.inr (.inl hfy))
  obtain rfl : u0 = Value.ref l := r0
  have cellAt : ∃ ck, X.env.cells.lookup y = some ck ∧ s2.heap.IsCell ck (some (.ref l)) := by
    rcases lk with ⟨k, _⟩ | ⟨_, ck, e1, e2⟩
    · rw [show X.env.kindOf y = some .cell from hfy] at k
      cases k
    · exact ⟨ck, e1, e2⟩
  obtain ⟨ck, eck, hcell⟩ := cellAt
  obtain ⟨⟨oc, vs, tk, o1, o2, o3⟩, _, _⟩ := I2.hok c' _ hco
  have lc : cs.length = ns.length := by rw [← rc.length, List.length_map]
  have lu : us.length = ks.length := by rw [← ru.length, List.length_map]
  have nsAt : ∀ i, i < ns.length → ∃ t, cs[i]? = some (.int (ns.getD i 0) t) := fun i hi => by
    obtain ⟨z, ez, rz⟩ := rc.get (i := i) (x := V.int (ns.getD i 0)) (by rw [List.getElem?_map, List.getD_eq_getElem?_getD, List.getElem?_eq_getElem hi]; rfl)
    obtain ⟨t, rfl⟩ := rz
    exact ⟨t, ez⟩
  refine min_lamT (ns := fun i => ns.getD i 0) (kf := fun i => ks.getD (ns.getD i 0).toNat 0) hh S hd ⟨hf, ⟨oc, vs, tk, o1, o2, o3⟩, I2.nolimit, NdefX.clo_has hfree (PySem.mem_of_lookup S.fy) eck, hcell, pl⟩ (fun v => hbind _ _ _ _ _ v) hdx hdy hcy tc (fun i hi => nsAt i (by omega)) (by omega)
    (fun i hi => ?_) fun v h' tk2 hv kp => ?_
  · have hi' : i < ns.length := by omega
    have hmem : ns.getD i 0 ∈ ns := by rw [List.getD_eq_getElem?_getD, List.getElem?_eq_getElem hi']; exact List.getElem_mem hi'
    obtain ⟨b0, b1⟩ := hin _ hmem
    have hs63 := line63
    rw [List.length_map] at hz2
    have hk' : (ns.getD i 0).toNat < ks.length := by omega
    obtain ⟨z, ez, rz⟩ := ru.get (i := (ns.getD i 0).toNat) (x := V.int (ks.getD (ns.getD i 0).toNat 0)) (by rw [List.getElem?_map, List.getD_eq_getElem?_getD (l := ks), List.getElem?_eq_getElem hk']; rfl)
    obtain ⟨t, rfl⟩ := rz
    exact ⟨b0, by omega, t, ez⟩
  · obtain ⟨n, en⟩ : ∃ n, ns.length = n + 1 := ⟨ns.length - 1, by omega⟩
    have fl := best_is (fun i => ks.getD (ns.getD i 0).toNat 0) n
    rw [← en] at fl
    rw [lc, show ns.length - 1 = n by omega] at hv
    obtain ⟨t, et⟩ := nsAt _ fl.1
    rw [et] at hv
    cases hv
    exact ⟨.int _, H2, I2.kept kp, ⟨t, rfl⟩, q _ H2 eN T2 ⟨_, fl, rfl⟩⟩
end
end Cl
namespace L2
open PySem PySem.Spec PyProof.Rows L2
section
variable {prog : Program} {w : World} {A : Around} {E : Value → Shared → Prop} {s : Shared}
theorem pick_rev (items : Array Value) : (List.filterMap (fun (k : Nat) => items[((items.size : Int) - 1 + ↑k * -1).toNat]?) (List.range items.size)) = items.toList.reverse := by
  obtain ⟨l⟩ := items
  simp only [List.size_toArray, List.getElem?_toArray]
  have h : ∀ m, m ≤ l.length → List.filterMap (fun (k : Nat) => l[((l.length : Int) - 1 + ↑k * -1).toNat]?) (List.range m) = (l.drop (l.length - m)).reverse := by
    intro m
    induction m with
    | zero => intro _; simp
    | succ m ih =>
      intro hm
      rw [List.range_succ, List.filterMap_append, ih (by omega)]
      have hi : l.length - (m + 1) < l.length := by omega
      have e1 : List.filterMap (fun (k : Nat) => l[((l.length : Int) - 1 + ↑k * -1).toNat]?) [m] = [l[l.length - (m + 1)]] := by
        rw [List.filterMap_cons]
        rw [show (((l.length : Int) - 1 + ((m : Nat) : Int) * -1).toNat) = l.length - (m + 1) by omega, List.getElem?_eq_getElem hi]
        rfl
      have e2 : l.drop (l.length - (m + 1)) = l[l.length - (m + 1)] :: l.drop (l.length - m) := by
        rw [List.drop_eq_getElem_cons hi, show l.length - (m + 1) + 1 = l.length - m by omega]
      rw [e1, e2, List.reverse_cons]
  rw [h _ (Nat.le_refl _), Nat.sub_self, List.drop_zero]
theorem sliceApplied_rev {sl : Addr} {t : Tok} {n : Nat} {Q : Int × Int × Nat → Shared → Prop} (h : s.heap.IsSliceOf sl .none .none (.int (-1) t)) (q : Q ((n : Int) - 1, -1, n) s) :
    wpAny (model prog w) A (Builtin.Slice.sliceApplied (.ref sl) (pure ↑n)) Q E s := by
  obtain ⟨o, h1, h2, h3⟩ := h
  unfold Builtin.Slice.sliceApplied
  refine wpAny_bind ?_
  unfold Builtin.Slice.sliceFields
  refine wpAny_bind (wpAny_field h1 h3 (by rfl) ?_)
  refine wpAny_bind (wpAny_field h1 h3 (by rfl) ?_)
  refine wpAny_bind (wpAny_field h1 h3 (by rfl) ?_)
  refine wpAny_pure ?_
  refine wpAny_bind (slicePart_int ?_)
  show wpAny _ _ (if ((-1 : Int) == 0) = true then _ else _) _ _ _
  rw [if_neg (by decide)]
  refine wpAny_bind (slicePart_none ?_)
  refine wpAny_bind (slicePart_none ?_)
  refine wpAny_bind (wpAny_pure ?_)
  have e : Builtin.Slice.sliceAdjust none none (-1) (n : Int) = ((n : Int) - 1, -1) := rfl
  show wpAny _ _ (match Builtin.Slice.sliceAdjust none none (-1) (n : Int) with | (lo, hi) => pure (lo, -1, Builtin.Slice.slicePlaces lo hi (-1))) _ _ _
  rw [e]
  refine wpAny_pure ?_
  have e2 : Builtin.Slice.slicePlaces ((n : Int) - 1) (-1) (-1) = n := by
    unfold Builtin.Slice.slicePlaces
    rw [if_neg (by decide)]
    by_cases h0 : n = 0
    · subst h0
      rfl
    · rw [if_pos (by omega)]
      show (((n : Int) - 1 - -1 - 1) / 1 + 1).toNat = n
      omega
  rw [e2]
  exact q
theorem getItem_tuple_rev {t sl : Addr} {items : Array Value} {tk : Tok} {Q : Value → Shared → Prop} (ht : IsTup s.heap t items) (hs : s.heap.IsSliceOf sl .none .none (.int (-1) tk)) (hz : items.size ≤ sizeLine)
    (q : Q (.ref s.heap.objs.size) { s with heap := s.heap.push { cls := .type "tuple", data := .seq items.toList.reverse.toArray } }) : wpAny (model prog w) A (getItem (.ref t) (.ref sl)) Q E s := by
  unfold getItem
  refine wpAny_holding ?_
  refine wpAny_bind (wpAny_sequenceKey ht.typeIs (by decide) ?_)
  refine wpAny_bind (wpAny_callSpecial?_slot ht.typeIs slot_tuple_getitem (wpAny_call_entry slot_tuple_getitem ht.typeIs entry_tuple_getitem ?_ (args_tuple_getitem _ _)))
  unfold Builtin.«tuple.__getitem__»
  show wpAny _ _ (do
      let xs ← Builtin.Tuple.tupleItemsOf (.ref t)
      _) _ _ _
  refine wpAny_bind (tupleItemsOf_ ht ?_)
  obtain ⟨o, h1, h2, h3⟩ := id hs
  refine wpAny_bind (wpAny_typeOf (T := "slice") ⟨_, h1, h2⟩ ?_)
  rw [if_pos (by decide)]
  refine wpAny_bind (sliceApplied_rev hs ?_)
  show wpAny _ _ (if (((items.size : Int) - 1) == 0 && ((-1 : Int) == 1) && items.size == items.size) = true then _ else _) _ _ _
  rw [if_neg (by simp)]
  refine wpAny_bind ?_
  unfold Builtin.Tuple.tupleExact
  refine wpAny_newObj_type ?_ ?_
  · rw [pick_rev]
    refine wpAny_pure ⟨_, rfl, ?_⟩
    exact wpAny_pure q
  · show sizeOk (.seq _)
    rw [pick_rev]
    show (items.toList.reverse.toArray).size ≤ sizeLine
    simpa using hz
end
section
variable {X : Cx}
/-- t[::-1], t a tuple -/
def tRevT (K : PySem.W.Frag) (te ts : TE) : TE := fun σ H Q => te σ H fun x H1 => ts σ H1 fun y H2 => y = .int (-1) ∧ ∃ a xs, x = .ref a ∧ SqT K H2 a xs ∧ ∀ (p : Addr) (H' : Hp), Same H2 H' → H' p = some (.tup xs.reverse) → Q (.ref p) H'
theorem pe_revT {e st : Expr} {p3 pos : Pos} {te ts : TE} (he : PE X e te) (hs : PE X st ts) : PE X (.Subscript e (.Slice none none (some st) p3) pos) (tRevT X.K te ts) := by
  refine ⟨fun pins s σ H Q I h => ?_⟩
  refine Subscript_ (thn (he.run pins s σ H _ I h) fun v s1 ⟨x, H1, I1, r1, h1⟩ => ?_)
  refine wpAny_Slice ?_
  rw [evalPart_none]
  refine wpAny_pure (wpAny_pure ?_)
  show wpAny _ _ (eval st X.env) _ _ s1
  refine thn (hs.run pins s1 σ H1 _ I1 h1) fun u s2 ⟨y, H2, I2, r2, ey, a, xs, ex, ht, q⟩ => ?_
  subst ey
  subst ex
  obtain ⟨tk, rfl⟩ := r2
  obtain rfl : v = Value.ref a := r1
  have I3 := I2.kept (t' := s2.toks) (h' := s2.heap.push { cls := .type "slice", data := .fields #[.none, .none, .int (-1) tk] }) fun b o e => Heap.get?_push_of_some _ e
  obtain ⟨its, rv, tt, hz⟩ := I3.tuple ht
  have hl := rv.length
  refine tail_any (T := "tuple") tt.typeIs rfl ?_ rfl
  refine getItem_tuple_rev tt (Heap.IsSliceOf.new _ _ _ _) (by simp only [List.size_toArray]; omega) ?_
  generalize s2.heap.push { cls := .type "slice", data := .fields #[.none, .none, .int (-1) tk] } = h3 at I3 tt
  have hn := I3.hok.fresh (Nat.le_refl h3.objs.size)
  exact ⟨.ref h3.objs.size, _, I3.laid (t' := s2.toks) (fun b o e => Heap.get?_push_of_some _ e) (Nat.le_refl _) (show ObjOk X.prog X.w _ _ _ (.tup xs.reverse) from ⟨by rw [List.length_reverse]; exact hz, its.reverse, rv.reverse, IsTup.new _ _⟩), rfl, q _ _ (fun b o e => by rw [upd_ne (ne_of_none e hn)]; exact e) upd_same⟩
end
end L2
namespace Tw
open PySem PySem.Spec PyProof.Rows L2 PySem.W
section
variable {X : Cx} {CX : CXT} {k : Nat} {f C D : Addr} {fd : FuncData} {ps : List Str} {sp : Sp} {E : XK}
theorem op_notIn_own (hd : Dn X.K C "__contains__" f) (F : FnOk X.prog X.w X.K X.mg X.base CX k f fd ps sp) (hr : Room k X.A) (hb : Binds X.K fd ps []) (hx : Passes CX X E) : OpR X (compareOp .NotIn) (rIn C sp E true) := by
  intro pins s σ H x y v u Q I rx ry ⟨a, dx, fs, ey, ha, q⟩
  subst ey
  obtain rfl : u = Value.ref a := ry
  obtain ⟨mA, O, rr, _, _, _⟩ := ins_get I.hok ha
  obtain ⟨od, J, hl⟩ := O.look
  obtain ⟨m0, hF⟩ := I.fr
  refine PySem.W.notIn_K hF I.ok.mod.kin J hd.at_ hd.fn (thn (run_sub F ⟨hr, rfl⟩ hb hx I (.cons (relR a) (.cons rx .nil)) q) fun r s' ⟨z, H', I', rz, b, ez, q'⟩ => ?_)
  subst ez
  obtain rfl : r = Value.bool b := rz
  exact wpAny_truthy_bool ⟨_, _, I', relB (!b), q'⟩
end
end Tw

set_option Elab.async false
set_option linter.all false
set_option maxRecDepth 100000
set_option maxHeartbeats 4000000
/-! min(xs), xs a list of tuples of ints -/
namespace L2
open PySem PySem.Spec PyProof.Rows PySem.W
theorem tupE_lt (p q : List Int) : dataLt (tupE p) (tupE q) = decide (p < q) := by
  show dataLt (.tuple (p.map .int)) (.tuple (q.map .int)) = _
  rw [dataLt_tuple]
  show rowLt (p.map .int) (q.map .int) = _
  rw [dataLt_ints]
theorem minD_tups : ∀ (r : List (List Int)) (b : List Int), ∃ m, minD (tupE b) (r.map tupE) = tupE m ∧ m ∈ b :: r ∧ ∀ z ∈ b :: r, m ≤ z
  | [], b => ⟨b, rfl, List.mem_cons_self, fun z hz => by rw [List.mem_singleton.mp hz]; exact List.le_refl _⟩
  | c :: r, b => by
    have e : minD (tupE b) ((c :: r).map tupE) = minD (if decide (c < b) = true then tupE c else tupE b) (r.map tupE) := by
      show List.foldl _ _ _ = List.foldl _ _ _
      rw [List.map_cons, List.foldl_cons, tupE_lt]
    rw [e]
    by_cases h : c < b
    · rw [if_pos (decide_eq_true h)]
      obtain ⟨m, e1, e2, e3⟩ := minD_tups r c
      refine ⟨m, e1, List.mem_cons_of_mem _ e2, fun z hz => ?_⟩
      rcases List.mem_cons.mp hz with rfl | hz
      · exact List.le_trans (e3 c List.mem_cons_self) (List.le_of_lt h)
      · exact e3 z hz
    · rw [if_neg (fun z => h (of_decide_eq_true z))]
      obtain ⟨m, e1, e2, e3⟩ := minD_tups r b
      refine ⟨m, e1, ?_, fun z hz => ?_⟩
      · rcases List.mem_cons.mp e2 with rfl | e2
        · exact List.mem_cons_self
        · exact List.mem_cons_of_mem _ (List.mem_cons_of_mem _ e2)
      · rcases List.mem_cons.mp hz with rfl | hz
        · exact e3 _ List.mem_cons_self
        · rcases List.mem_cons.mp hz with rfl | hz
          · exact List.le_trans (e3 b List.mem_cons_self) (List.not_lt.mp h)
          · exact e3 z (List.mem_cons_of_mem _ hz)
theorem tupE_depth (b : List Int) : (tupE b).depth ≤ 1 := by
  simp [PyData.depth, depth_ints]
theorem tupE_depths : ∀ bs : List (List Int), PyData.depthAll (bs.map tupE) ≤ 1
  | [] => by simp [PyData.depthAll]
  | b :: bs => by
    have h1 := tupE_depth b
    have h2 := tupE_depths bs
    rw [List.map_cons, PyData.depthAll]
    omega
section
variable {X : Cx} {pins : List (Addr × Obj)} {σ : St} {H : Hp} {s : Shared}
theorem readsAll_tups (I : Inv X pins σ H s) : ∀ {us : List Value} {bs : List (List Int)}, EachIs (TupV X.K H) us bs → ∃ as, ReadsAll s.heap us (bs.map tupE) as
  | _, _, .nil => ⟨_, .nil⟩
  | _, _, .cons h p => by
    obtain ⟨as, r⟩ := tupV_reads I h
    obtain ⟨bs, rs⟩ := readsAll_tups I p
    exact ⟨_, .cons r rs⟩
theorem ints_lay : ∀ ns : List Int, PyData.canLayAll0 (ns.map .int) = true
  | [] => rfl
  | a :: ns => by
    rw [List.map_cons]
    simp [PyData.canLayAll0, PyData.canLay0, ints_lay ns]
theorem pdi_inj : ∀ ms ns : List Int, ms.map PyData.int = ns.map PyData.int → ms = ns
  | [], [], _ => rfl
  | [], b :: ns, h => by simp at h
  | a :: ms, [], h => by simp at h
  | a :: ms, b :: ns, h => by
    rw [List.map_cons, List.map_cons] at h
    injection h with h1 h2
    injection h1 with h1
    rw [h1, pdi_inj ms ns h2]
theorem reads_tup_one {h : Heap} {t : Addr} {ms ns : List Int} {as bs : List Addr} (h1 : Reads h (.ref t) (tupE ms) as) (h2 : Reads h (.ref t) (tupE ns) bs) : ms = ns := by
  have e := SeqAt.ReadsAll.unique [tupE ms] [tupE ns] [.ref t] _ _ (by simp [PyData.canLayAll0, PyData.canLay0, ints_lay]) (.cons h1 .nil) (.cons h2 .nil)
  have e2 := (List.cons.inj e).1
  unfold tupE at e2
  injection e2 with e2
  exact pdi_inj ms ns e2
/-- min(xs) -/
def rMinTA (K : PySem.W.Frag) : List V → Hp → VK → Prop := fun vs H Q => ∃ (a : Addr) (xs : List V) (bs : List (List Int)), vs = [V.ref a] ∧ SqL K H a xs ∧ Paired (TupI K H) xs bs ∧ bs ≠ [] ∧
  ∀ (t : Addr) (m : List Int), SqT K H t (m.map V.int) → m ∈ bs → (∀ z ∈ bs, m ≤ z) → Q (.ref t) H
theorem each_at {R : Value → List Int → Prop} : ∀ {us : List Value} {bs : List (List Int)}, EachIs R us bs → ∀ {i : Nat} {v : Value}, us[i]? = some v → ∃ b, R v b
  | _, _, .nil, i, v, h => by simp at h
  | _, _, .cons h p, 0, v, e => by
    cases e
    exact ⟨_, h⟩
  | _, _, .cons h p, i + 1, v, e => each_at p e
theorem cr_minTA (hh : X.A.handled = none) (hu : X.A.units + 65 < cLine) : CallR X (.builtin "min") (rMinTA X.K) := by
  intro pins s σ H vs us Q I r h
  obtain ⟨a, xs, bs, rfl, hs, hp, hne, q⟩ := h
  obtain ⟨its, rv, hl, hz⟩ := I.list hs
  rw [Vals.ref1 r]
  have e0 : EachIs (TupV X.K H) its bs := tupV_of hp rv
  match bs, hne, e0, q with
  | b :: r, _, e0, q =>
    obtain ⟨as, ra⟩ := readsAll_tups I e0
    obtain ⟨m, em, hm, hle⟩ := minD_tups r b
    refine min_list_data (x := tupE b) (xs := r.map tupE) hh hl.isList (by simpa using ra) ⟨?_, ?_⟩ ?_ fun i v h' tk cs hv hr kp => ?_
    · intro x hx y hy
      rw [← List.map_cons] at hx hy
      obtain ⟨b1, _, rfl⟩ := List.mem_map.mp hx
      obtain ⟨b2, _, rfl⟩ := List.mem_map.mp hy
      simp [alike, alike_ints]
    · intro x hx
      rw [← List.map_cons] at hx
      obtain ⟨b1, _, rfl⟩ := List.mem_map.mp hx
      intro z
      cases z
    · have := tupE_depths (b :: r)
      rw [List.map_cons] at this
      omega
    · have hv' : its[i]? = some v := by simpa using hv
      obtain ⟨ns, t, rfl, ht⟩ := each_at e0 hv'
      rw [em] at hr
      have e1 : ns = m := by
        obtain ⟨bs1, r1⟩ := tupV_reads I ⟨t, rfl, ht⟩
        exact reads_tup_one (reads_keeps kp r1) hr
      subst e1
      exact ⟨.ref t, H, I.kept kp, rfl, q t ns ht hm hle⟩
end
end L2

set_option Elab.async false
set_option linter.all false
set_option maxRecDepth 100000
set_option maxHeartbeats 4000000
/-! t * n, t a tuple, n from 0 on -/
namespace PySem
open PySem PySem.W PySem.AutoSeq1
theorem tuple_mul1 (l : Addr) (items : Array Value) (n : Nat) (dd : Option Addr) (sl : Array (Option Value)) (u : Tok) :
    Meets (Builtin.«tuple.__mul__» ⟨[.ref l, .int 1 u], []⟩) (fun _ R s => s.heap.get? l = some { cls := .type "tuple", dict := dd, data := .seq items n, slots := sl } ∧ R (.ok (.ret (.ref l))) s) :=
  .of_wp fun prog w A R s h => by
    obtain ⟨hp, g, d, tk, os⟩ := s
    obtain ⟨hl, h⟩ := h
    have f1 := idx_int
    have f2 := sub_tuple_tuple
    have h1 : (decide ((1 : Int) < -2 ^ 63) || decide ((1 : Int) ≥ 2 ^ 63)) = false := by decide
    have h2 : (items.isEmpty || (1 : Int) == 1) = true := by simp
    wp_walk using wpAny_loadPart' hl
    exact ⟨_, rfl, h⟩
theorem tuple_mul0 (l : Addr) (items : Array Value) (n : Nat) (dd : Option Addr) (sl : Array (Option Value)) (u : Tok) (hne : items.isEmpty = false) :
    Meets (Builtin.«tuple.__mul__» ⟨[.ref l, .int 0 u], []⟩) (fun _ R s => s.heap.get? l = some { cls := .type "tuple", dict := dd, data := .seq items n, slots := sl } ∧ R (.ok (.ret (.ref s.heap.objs.size))) { s with heap := s.heap.push { cls := .type "tuple", data := .seq #[] 0 } }) :=
  .of_wp fun prog w A R s h => by
    obtain ⟨hp, g, d, tk, os⟩ := s
    obtain ⟨hl, h⟩ := h
    have f1 := idx_int
    have f2 := sub_tuple_tuple
    have h1 : (decide ((0 : Int) < -2 ^ 63) || decide ((0 : Int) ≥ 2 ^ 63)) = false := by decide
    have h2 : (items.isEmpty || (0 : Int) == 1) = false := by simp [hne]
    have h3 : (decide ((0 : Int) ≤ 0) || items.isEmpty) = true := by simp
    wp_walk using wpAny_loadPart' hl
    exact ⟨_, rfl, h⟩
end PySem
namespace L2
open PySem PySem.Spec PyProof.Rows PySem.W
def rRepU : R2 := fun x y H Q => ∃ (l : Addr) (k : Nat) (xs : List V), x = .ref l ∧ y = .int k ∧ H l = some (.tup xs) ∧ xs ≠ [] ∧ k ≤ 1000 ∧ xs.length ≤ 1000 ∧ ∀ t H', Same H H' → H' t = some (.tup (List.replicate k xs).flatten) → Q (.ref t) H'
theorem op_repU {X : Cx} : OpR X (binaryOp .Mult) rRepU := by
  intro pins s σ H x y v u Q I rx ry h
  obtain ⟨l, k, xs, rfl, rfl, hx, hne, hk, hl, q⟩ := h
  by_cases h2 : 2 ≤ k
  · exact op_repT pins s σ H _ _ v u Q I rx ry ⟨l, k, xs, rfl, rfl, SqT.of hx, hne, by omega, by omega, hl, fun p np => q p _ (fun b o e => by rw [upd_ne (ne_of_none e np)]; exact e) (by rw [upd_same, Int.toNat_natCast])⟩
  · cases rx
    obtain ⟨t, rfl⟩ := ry
    obtain ⟨its, rv, tc, hz⟩ := I.tuple (SqT.of hx : SqT X.K H l xs)
    obtain ⟨ob, eb, hc, n2, hd⟩ := id tc
    obtain ⟨cls, dc, data, sl⟩ := ob
    dsimp only at hc hd
    subst hc hd
    have hie : its.toArray.isEmpty = false := by
      have := rv.length
      cases its with
      | nil => exact absurd (List.length_eq_zero_iff.mp this) hne
      | cons a r => rfl
    refine wpAny_binaryOp_repeat_ref (T := "tuple") (U := "int") (by decide +kernel) ⟨_, eb, rfl⟩ (fun _ => rfl) noFill_tuple_mul F.fills_int_mul F.slot_int_rmul repeat_tuple AutoSeq1.idx_int ?_
    refine call_meets F.slot_int_rmul rfl F.entry_int_rmul (F.args_int_rmul_2 _ _) (int_rmul_tuple _ _ _ _ _ _ _) ⟨eb, ?_⟩
    refine ⟨rfl, ⟨_, eb, rfl⟩, ?_⟩
    obtain hk0 | hk1 : k = 0 ∨ k = 1 := by omega
    · subst hk0
      refine call_meets F.slot_tuple_mul ⟨_, eb, rfl⟩ F.entry_tuple_mul (F.args_tuple_mul_2 _ _) (tuple_mul0 _ _ _ _ _ _ hie) ⟨eb, ?_⟩
      have hn := I.hok.fresh (Nat.le_refl s.heap.objs.size)
      exact ⟨.ref s.heap.objs.size, _, I.laid (t' := s.toks) (fun b o e => Heap.get?_push_of_some _ e) (Nat.le_refl _) (show ObjOk X.prog X.w _ _ _ (.tup []) from ⟨Nat.zero_le _, [], .nil, IsTup.new _ _⟩), rfl, q _ _ (fun b o e => by rw [upd_ne (ne_of_none e hn)]; exact e) upd_same⟩
    · subst hk1
      refine call_meets F.slot_tuple_mul ⟨_, eb, rfl⟩ F.entry_tuple_mul (F.args_tuple_mul_2 _ _) (tuple_mul1 _ _ _ _ _ _) ⟨eb, ?_⟩
      refine ⟨.ref l, H, I, rfl, q l H (Same.refl _) ?_⟩
      rw [hx, List.replicate_one, List.flatten_singleton]
end L2

set_option Elab.async false
set_option linter.all false
set_option maxRecDepth 100000
set_option maxHeartbeats 4000000
/-! len of a set; min of a tuple of ints -/
namespace L2
open PySem PySem.Spec PyProof.Rows PySem.W
section
variable {X : Cx}
def rLenSet (w : World) : List V → Hp → VK → Prop := fun xs H Q => ∃ (a : Addr) (S : Int → Bool) (n : Nat), xs = [V.ref a] ∧ H a = some (SetO w a S n) ∧ ∀ ks : List Int, ks.Nodup → (∀ k, S k = true ↔ k ∈ ks) → ks.length = n → Q (.int (n : Nat)) H
theorem cr_lenSet : CallR X (.builtin "len") (rLenSet X.w) := by
  intro pins s σ H xs us Q I r h
  obtain ⟨a, S, n, rfl, e, q⟩ := h
  rw [Vals.ref1 r]
  have ok := I.hok a _ e
  unfold SetO ObjOk at ok
  obtain ⟨⟨o, es, ep, t, h1, h2, h3, h4, h5, h6, h7, h8, h9, _, _⟩, _, _⟩ := ok
  have hb : (es.size : Int) < 2 ^ 63 := by
    have : scanBound ≤ 1048576 := by unfold scanBound; decide
    omega
  refine call_len_set h1 h2 h3 h8 hb ?_
  subst h9
  exact ⟨.int (es.size : Nat), H, I.kept (fun _ _ e => e), ⟨_, rfl⟩, q _ h5 h6 (by rw [List.length_map, Array.length_toList])⟩
theorem reads_int1 {h : Heap} {k m : Int} {t : Tok} {as : List Addr} (r : Reads h (.int k t) (.int m) as) : k = m := by
  cases r
  rfl
theorem readsAll_ints {h : Heap} : ∀ {ns : List Int} {us : List Value}, Vals (ns.map V.int) us → ∃ as, ReadsAll h us (ns.map PyData.int) as
  | [], _, .nil => ⟨_, .nil⟩
  | n :: ns, _, .cons r v => by
    obtain ⟨t, rfl⟩ := r
    obtain ⟨as, ra⟩ := readsAll_ints v
    exact ⟨_, .cons (.int n t) ra⟩
theorem depth_ints0 : ∀ ns : List Int, PyData.depthAll (ns.map PyData.int) ≤ 1
  | [] => by simp [PyData.depthAll]
  | a :: l => by
    have := depth_ints0 l
    rw [List.map_cons, PyData.depthAll]
    simp only [PyData.depth]
    omega
theorem fmin_le : ∀ (l : List Int) (a : Int), l.foldl min a ≤ a ∧ ∀ z ∈ l, l.foldl min a ≤ z
  | [], a => ⟨Int.le_refl _, fun z hz => nomatch hz⟩
  | b :: l, a => by
    obtain ⟨h1, h2⟩ := fmin_le l (min a b)
    rw [List.foldl_cons]
    refine ⟨by omega, fun z hz => ?_⟩
    rcases List.mem_cons.mp hz with rfl | hz
    · omega
    · exact h2 z hz
def rMinTu (K : PySem.W.Frag) : List V → Hp → VK → Prop := fun vs H Q => ∃ (a : Addr) (ns : List Int), vs = [V.ref a] ∧ SqT K H a (ns.map V.int) ∧ ns ≠ [] ∧ ∀ m : Int, m ∈ ns → (∀ z ∈ ns, m ≤ z) → Q (.int m) H
theorem cr_minTu (hh : X.A.handled = none) (hu : X.A.units + 65 < cLine) : CallR X (.builtin "min") (rMinTu X.K) := by
  intro pins s σ H vs us Q I r h
  obtain ⟨a, ns, rfl, hs, hne, q⟩ := h
  obtain ⟨its, rv, tc, hz⟩ := I.tuple hs
  rw [Vals.ref1 r]
  obtain ⟨n, l, rfl⟩ : ∃ n l, ns = n :: l := by
    cases ns with
    | nil => exact absurd rfl hne
    | cons n l => exact ⟨n, l, rfl⟩
  obtain ⟨as, ra⟩ := readsAll_ints (h := s.heap) rv
  refine min_tuple_data (x := .int n) (xs := l.map PyData.int) hh tc (by simpa using ra) ⟨?_, ?_⟩ ?_ fun i v h' tk cs hv hr kp => ?_
  · intro x hx y hy
    rw [← List.map_cons] at hx hy
    obtain ⟨b1, _, rfl⟩ := List.mem_map.mp hx
    obtain ⟨b2, _, rfl⟩ := List.mem_map.mp hy
    simp [alike]
  · intro x hx
    rw [← List.map_cons] at hx
    obtain ⟨b1, _, rfl⟩ := List.mem_map.mp hx
    intro z
    cases z
  · have := depth_ints0 (n :: l)
    rw [List.map_cons] at this
    omega
  · have hv' : its[i]? = some v := by simpa using hv
    have hl := rv.length
    have hi : i < (n :: l).length := by
      rw [List.length_map] at hl
      rw [hl]
      exact (List.getElem?_eq_some_iff.mp hv').1
    obtain ⟨z, ez, rz⟩ := rv.get (i := i) (x := V.int (n :: l)[i]) (by rw [List.getElem?_map, List.getElem?_eq_getElem hi]; rfl)
    rw [hv'] at ez
    cases ez
    obtain ⟨t, rfl⟩ := rz
    rw [minD_ints] at hr
    obtain ⟨h1, h2⟩ := fmin_le l n
    have e : (n :: l)[i] = l.foldl min n := reads_int1 hr
    exact ⟨.int _, H, I.kept kp, ⟨t, rfl⟩, q _ (List.getElem_mem hi) fun z hz => by
      rw [e]
      rcases List.mem_cons.mp hz with rfl | hz
      · exact h1
      · exact h2 z hz⟩
end
end L2

set_option Elab.async false
set_option linter.all false
set_option maxRecDepth 100000
set_option maxHeartbeats 2000000
/-! own rules: slices of tuples that are known to have no dict; t.index(text) -/
namespace L2
open PySem PySem.Spec PyProof.Rows L2
section
variable {X : Cx}
def rSlF (K : PySem.W.Frag) : V → Option Int → Option Int → Hp → VK → Prop := fun x lo hi H Q => ∃ a xs, x = .ref a ∧ SqT K H a xs ∧
  ¬ (HT.sIx xs.length 0 lo = 0 ∧ HT.sIx xs.length xs.length hi = xs.length) ∧ ∀ p o, H p = none → o.dict = none → Q (.ref p) (upd H p (.frz o (.tup (cutV xs lo hi))))
theorem sl_tupF : SlR X (rSlF X.K) := by
  intro pins s σ H x v vl vu lo hi sl Q I rx hs pl pu h
  obtain ⟨a, xs, rfl, hx, hw, q⟩ := h
  cases rx
  obtain ⟨its, r, ht, hz⟩ := I.tuple hx
  have hlen : its.toArray.size = xs.length := by rw [List.size_toArray]; exact r.length.symm
  refine ⟨"tuple", _, PyProof.Rows.slot_tuple_getitem.lookup, ht.typeIs, ?_⟩
  refine HT.getItem_tuple_cut ht hs pl pu (by rw [hlen]; exact hw) ?_ (by rw [hlen]; exact hz)
  rw [hlen]
  have hv := (r.drop (HT.sIx xs.length 0 lo)).take (HT.sIx xs.length xs.length hi - HT.sIx xs.length 0 lo)
  refine ⟨.ref s.heap.objs.size, _, I.laid (t' := s.toks) (o := .frz { cls := .type "tuple", data := .seq (((its.drop (HT.sIx xs.length 0 lo)).take (HT.sIx xs.length xs.length hi - HT.sIx xs.length 0 lo)).toArray) } (.tup (cutV xs lo hi))) (fun b ob q => Heap.get?_push_of_some _ q) (Nat.le_refl _) ?_, rfl, q _ _ (I.hok.fresh (Nat.le_refl _)) rfl⟩
  exact ⟨Heap.get?_push_size _ rfl, Nat.le_trans (cutV_length xs lo hi) hz, _, hv, IsTup.new _ _⟩
/-- t.index(x), texts, x there -/
def rIndexS (K : PySem.W.Frag) : V → List V → Hp → VK → Prop := fun x vs H Q => ∃ (a : Addr) (ns : List Str) (k : Str) (j : Nat), x = .ref a ∧ vs = [.str k] ∧ SqT K H a (ns.map V.str) ∧ (∀ z ∈ ns, (PyData.str z).canLay0 = true) ∧ ns[j]? = some k ∧ (∀ m, m < j → ns[m]? ≠ some k) ∧ Q (.int (j : Nat)) H
theorem dpAll_strs (K : PySem.W.Frag) (H : Hp) : ∀ ns : List Str, DpAll K H (ns.map V.str) (ns.map PyData.str)
  | [] => .nil
  | n :: ns => .cons (.str n) (dpAll_strs K H ns)
theorem lay_strs : ∀ ns : List Str, (∀ z ∈ ns, (PyData.str z).canLay0 = true) → PyData.canLayAll0 (ns.map PyData.str) = true
  | [], _ => rfl
  | n :: ns, h => by
    rw [List.map_cons, PyData.canLayAll0, lay_strs ns (fun z hz => h z (List.mem_cons_of_mem _ hz)), h n List.mem_cons_self]
    rfl
theorem str_beq (a b : Str) : PyData.eqv (.str a) (.str b) = (a == b) := rfl
theorem mt_indexTS (hu : X.A.units + 65 < cLine) : MtR X "tuple.index" (rIndexS X.K) := by
  intro pins s σ H x xs v us Q I rx rxs h
  obtain ⟨a, ns, k, j, rfl, rfl, hl, hlay, hj, hno, q⟩ := h
  cases rx
  cases rxs with
  | cons ry rt =>
    rename_i uy ut
    cases rt
    obtain ⟨its, rv, pl, hlen⟩ := I.tuple hl
    obtain ⟨as, h4⟩ := Dp.readsAll I (ns.map PyData.str) _ its (dpAll_strs _ _ ns) rv
    obtain ⟨bs, r1⟩ := Dp.reads I (.str k) _ uy (.str k) ry
    have hjl := (List.getElem?_eq_some_iff.mp hj).1
    have hvl := rv.length
    rw [List.length_map] at hvl hlen
    obtain ⟨⟨cls, dd, data, sl⟩, ho, hc, n, hd'⟩ := id pl
    simp only at hc hd'
    subst hc hd'
    have hxs : PyData.canLayAll0 (ns.map PyData.str) = true := lay_strs ns hlay
    have hmap : its.map (SeqAt.readOf s.heap) = ns.map PyData.str := SeqAt.readsAll_map _ its as hxs h4
    have at_ : ∀ (m : Nat) (hm : m < its.toArray.size) (z : Str), ns[m]? = some z → SeqAt.readOf s.heap its.toArray[m] = .str z := by
      intro m hm z hz
      have hml : m < its.length := by simpa using hm
      have e1 : (its.map (SeqAt.readOf s.heap))[m]? = some (.str z) := by rw [hmap, List.getElem?_map, hz]; rfl
      rw [List.getElem?_map, List.getElem?_eq_getElem hml] at e1
      have e2 : SeqAt.readOf s.heap its[m] = .str z := Option.some.inj e1
      simpa using e2
    have hj2 : j < its.toArray.size := by simp only [List.size_toArray]; omega
    refine call_meets F.slot_tuple_index ⟨_, ho, rfl⟩ F.entry_tuple_index (F.args_tuple_index_2 _ _)
      (TI.tuple_indexAt a its.toArray n dd sl uy (fun u => PyData.eqv (SeqAt.readOf s.heap u) (.str k)) j hj2 ?_ ?_) ⟨ho, SeqAt.items_eqAt (vs := its.toArray) (show ReadsAll s.heap its.toArray.toList (ns.map PyData.str) as from h4) r1 hxs (hlay k (List.mem_of_getElem? hj)) (Nat.lt_of_le_of_lt (Nat.add_le_add_left (Nat.min_le_right _ _) _) (by simp only [PyData.depth]; omega)), ?_⟩
    · show PyData.eqv (SeqAt.readOf s.heap its.toArray[j]) (.str k) = true
      rw [at_ j hj2 k hj]
      show (k == k) = true
      exact beq_self_eq_true k
    · intro m hm hmj
      have hmn : m < ns.length := by simp only [List.size_toArray] at hm; omega
      have hz : ns[m]? = some ns[m] := List.getElem?_eq_getElem hmn
      show PyData.eqv (SeqAt.readOf s.heap its.toArray[m]) (.str k) = false
      rw [at_ m hm _ hz]
      show (ns[m] == k) = false
      exact beq_eq_false_iff_ne.mpr fun z => hno m hmj (by rw [hz, z])
    · exact ⟨.int (j : Nat), H, I.tok _, ⟨_, rfl⟩, q⟩
end
theorem sameUp {H : Hp} {p : Addr} {o : HO} (np : H p = none) : Same H (upd H p o) := fun b u e => by
  rw [upd_ne (fun z => by rw [z, np] at e; cases e)]
  exact e
def rListK (K : PySem.W.Frag) : List V → Hp → VK → Prop := fun xs H Q => ∃ p ys, xs = [.ref p] ∧ (SqL K H p ys ∨ SqT K H p ys) ∧ ∀ l, H l = none → Q (.ref l) (upd H l (.lst ys))
theorem call_listK {X : Cx} : CallR X (.type "list") (rListK X.K) := call_list_of
def rTupK (K : PySem.W.Frag) : List V → Hp → VK → Prop := fun xs H Q => ∃ p ys, xs = [.ref p] ∧ ((SqL K H p ys ∧ ∀ l, H l = none → Q (.ref l) (upd H l (.tup ys))) ∨ (SqT K H p ys ∧ Q (.ref p) H))
theorem call_tupleK {X : Cx} : CallR X (.type "tuple") (rTupK X.K) := call_tuple_of
def tTruL (K : PySem.W.Frag) (ta : TE) : L2.TT := fun σ H Q => ta σ H fun x H' => ∃ k, TruV K x H' k ∧ Q k H'
theorem pt_truL {X : Cx} {K : PySem.W.Frag} {a : Expr} {ta : TE} (hK : X.K = K) (ha : PE X a ta) (he : ∀ whole, isTrue a X.env whole = (do let v ← whole; standAt a.pos; holding [v] (truthy v))) : PT X a (tTruL K ta) := by
  subst hK
  exact pt_truth ha he
/-! slices and sums of tuples, whichever object comes of them -/
theorem SqT.whole {xs : List V} {lo hi : Option Int} (h : HT.sIx xs.length 0 lo = 0 ∧ HT.sIx xs.length xs.length hi = xs.length) : cutV xs lo hi = xs := by
  unfold cutV
  rw [h.1, h.2, List.drop_zero, Nat.sub_zero, List.take_length]
theorem slA {K : PySem.W.Frag} {H : Hp} {a : Addr} {xs : List V} {lo hi : Option Int} {Q : VK} (ha : SqT K H a xs) (q : ∀ (H' : Hp) (p : Addr), Same H H' → SqT K H' p (cutV xs lo hi) → Q (.ref p) H') : rSlA K (.ref a) lo hi H Q :=
  ⟨a, xs, rfl, ha, fun h => q H a (Same.refl _) (by rw [SqT.whole h]; exact ha), fun _ p np => q _ p (sameUp np) (SqT.of upd_same)⟩
/-- the same, the new tuple standing by itself where the old one does -/
theorem slA' {K : PySem.W.Frag} {H : Hp} {a : Addr} {xs : List V} {lo hi : Option Int} {Q : VK} (ha : H a = some (.tup xs)) (q : ∀ (H' : Hp) (p : Addr), Same H H' → H' p = some (.tup (cutV xs lo hi)) → Q (.ref p) H') : rSlA K (.ref a) lo hi H Q :=
  ⟨a, xs, rfl, SqT.of ha, fun h => q H a (Same.refl _) (by rw [SqT.whole h]; exact ha), fun _ p np => q _ p (sameUp np) upd_same⟩
theorem catA {K : PySem.W.Frag} {H : Hp} {a b : Addr} {xs ys : List V} {Q : VK} (ha : SqT K H a xs) (hb : SqT K H b ys) (hl : xs.length + ys.length ≤ sizeLine) (q : ∀ (H' : Hp) (p : Addr), Same H H' → SqT K H' p (xs ++ ys) → Q (.ref p) H') : rCatA K (.ref a) (.ref b) H Q :=
  ⟨a, b, xs, ys, rfl, rfl, ha, hb, hl, fun h => q H b (Same.refl _) (by rw [h]; exact hb), fun _ h => q H a (Same.refl _) (by rw [h, List.append_nil]; exact ha), fun _ _ p np => q _ p (sameUp np) (SqT.of upd_same)⟩
theorem catA' {K : PySem.W.Frag} {H : Hp} {a b : Addr} {xs ys : List V} {Q : VK} (ha : H a = some (.tup xs)) (hb : H b = some (.tup ys)) (hl : xs.length + ys.length ≤ sizeLine) (q : ∀ (H' : Hp) (p : Addr), Same H H' → H' p = some (.tup (xs ++ ys)) → Q (.ref p) H') : rCatA K (.ref a) (.ref b) H Q :=
  ⟨a, b, xs, ys, rfl, rfl, SqT.of ha, SqT.of hb, hl, fun h => q H b (Same.refl _) (by rw [h]; exact hb), fun _ h => q H a (Same.refl _) (by rw [h, List.append_nil]; exact ha), fun _ _ p np => q _ p (sameUp np) upd_same⟩
theorem sIx_m1 {n : Nat} (d : Nat) (h : 1 ≤ n) : HT.sIx n d (some (-1)) = n - 1 := by
  unfold HT.sIx
  simp
  omega
theorem cutv_to (xs : List V) (k : Nat) : cutV xs none (some (k : Int)) = xs.take k := by
  unfold cutV
  rw [HT.sIx_none, HT.sIx_nat, List.drop_zero, Nat.sub_zero]
  by_cases h : k ≤ xs.length
  · rw [Nat.min_eq_left h]
  · rw [Nat.min_eq_right (by omega), List.take_length, List.take_of_length_le (by omega)]
theorem cutv_from (xs : List V) (k : Nat) : cutV xs (some (k : Int)) none = xs.drop k := by
  unfold cutV
  rw [HT.sIx_none, HT.sIx_nat]
  by_cases h : k ≤ xs.length
  · rw [Nat.min_eq_left h, List.take_of_length_le (by rw [List.length_drop]; omega)]
  · rw [Nat.min_eq_right (by omega), Nat.sub_self, List.take_zero, List.drop_eq_nil_of_le (by omega)]
theorem cutv_init {xs : List V} (h : 1 ≤ xs.length) : cutV xs none (some (-1)) = xs.dropLast := by
  unfold cutV
  rw [HT.sIx_none, sIx_m1 _ h, List.drop_zero, Nat.sub_zero, List.dropLast_eq_take]
theorem not_whole_init {n : Nat} (h : 1 ≤ n) : ¬ (HT.sIx n 0 none = 0 ∧ HT.sIx n n (some (-1)) = n) := by
  rw [sIx_m1 _ h]
  omega
theorem atV_last {α : Type} (f : α → V) (d : α) {xs : List α} (h : 1 ≤ xs.length) : atI (xs.map f) (-1) = some (f (xs.getLastD d)) := by
  unfold atI ixN
  rw [if_neg (by omega), if_pos (by rw [List.length_map]; omega), List.length_map, show ((-1 : Int) + (xs.length : Nat)).toNat = xs.length - 1 by omega]
  show (xs.map f)[xs.length - 1]? = _
  rw [List.getElem?_map, List.getElem?_eq_getElem (by omega), List.getLastD_eq_getLast?, List.getLast?_eq_getElem?, List.getElem?_eq_getElem (by omega)]
  rfl
theorem atV_nat {α : Type} (f : α → V) (d : α) {xs : List α} {i : Nat} (h : i < xs.length) : atI (xs.map f) (i : Int) = some (f (xs.getD i d)) := by
  refine atI_nat ?_
  rw [List.getElem?_map, List.getElem?_eq_getElem h, List.getD_eq_getElem?_getD, List.getElem?_eq_getElem h]
  rfl
end L2

set_option Elab.async false
set_option linter.all false
set_option maxRecDepth 100000
set_option maxHeartbeats 400000
/-! zip(xs, t): each a list or a tuple, told by a Bool (true: a tuple) -/
namespace Zm
open PySem PySem.Spec PyProof.Rows L2
open PySem.Sem (wp)
def SqM (K : PySem.W.Frag) (t : Bool) (H : Hp) (a : Addr) (xs : List V) : Prop := match t with
  | true => SqT K H a xs
  | false => SqL K H a xs
def hSq (t : Bool) (h : Heap) (a : Addr) (xs : Array Value) : Prop := match t with
  | true => h.IsTuple a xs
  | false => h.IsList a xs
def hIt (t : Bool) (h : Heap) (it a : Addr) (i : Nat) : Prop := match t with
  | true => h.IsTupleIter it a i
  | false => h.IsListIter it a i
def nIt (t : Bool) : String := if t then "tuple_iterator" else "list_iterator"
def oIt (t : Bool) (a : Addr) : Obj := { cls := .type (nIt t), data := .fields #[.ref a, .int 0 0] }
theorem hIt_young {t : Bool} {h : Heap} {it a : Addr} (e : h.get? it = some (oIt t a)) : hIt t h it a 0 := by
  cases t <;> exact ⟨_, e, rfl, rfl⟩
theorem hIt_there {t : Bool} {h : Heap} {it a : Addr} {i : Nat} (e : hIt t h it a i) : ∃ o, h.get? it = some o ∧ ∀ v, o.data ≠ .cell v := by
  cases t <;> (obtain ⟨o, e1, _, d⟩ := e; exact ⟨o, e1, fun v q => by rw [d] at q; cases q⟩)
theorem hIt_at {t : Bool} {h h' : Heap} {it a : Addr} {i : Nat} (e : hIt t h it a i) (k : ∀ o, h.get? it = some o → h'.get? it = some o) : hIt t h' it a i := by
  cases t
  · exact Heap.IsListIter.at e k
  · exact Heap.IsTupleIter.at e k
theorem hSq_lt {t : Bool} {h : Heap} {a : Addr} {xs : Array Value} (e : hSq t h a xs) : a < h.objs.size := by
  cases t <;> (obtain ⟨o, e1, _⟩ := e; exact Heap.lt_size e1)
theorem hSq_up {t : Bool} {h h' : Heap} {a : Addr} {xs : Array Value} (e : hSq t h a xs) (k : ∀ o, h.get? a = some o → h'.get? a = some o) : hSq t h' a xs := by
  cases t <;> (obtain ⟨o, e1, r⟩ := e; exact ⟨o, k _ e1, r⟩)
theorem sq_get {X : Cx} {pins : List (Addr × Obj)} {σ : L2.St} {H : Hp} {s : Shared} {t : Bool} {a : Addr} {xs : List V} (I : Inv X pins σ H s) (q : SqM X.K t H a xs) :
    ∃ its : List Value, Vals xs its ∧ hSq t s.heap a its.toArray := by
  cases t
  · obtain ⟨its, rv, p, _⟩ := I.list q
    exact ⟨its, rv, p.isList⟩
  · obtain ⟨its, rv, p, _⟩ := I.tuple q
    exact ⟨its, rv, p⟩
theorem sq_one {X : Cx} {pins : List (Addr × Obj)} {σ : L2.St} {H : Hp} {s : Shared} {t : Bool} {a : Addr} {xs ys : List V} (I : Inv X pins σ H s) (q : SqM X.K t H a xs) (q2 : SqM X.K t H a ys) : xs = ys := by
  cases t
  · exact I.list_inj q q2
  · exact I.tuple_inj q q2
section
variable {prog : Program} {w : World} {A : Around}
theorem drawM (hh : A.handled = none) (t : Bool) (it a : Addr) (hne : a ≠ it) (items : Array Value) :
    Draws prog w A it [it, a] items.size (fun i v => items[i]? = some v) (fun i h => hIt t h it a i ∧ hSq t h a items) := by
  cases t
  · exact Draws.list hh it a hne items
  · exact Draws.tuple hh it a hne items
theorem newM {E : Value → Shared → Prop} {s : Shared} {t : Bool} {a : Addr} {items : Array Value} {Q : Value → Shared → Prop} (hl : hSq t s.heap a items)
    (hQ : Q (.ref s.heap.objs.size) { s with heap := s.heap.push (oIt t a) }) : wpAny (model prog w) A (pyIter (.ref a)) Q E s := by
  cases t
  · exact wpAny_pyIter_list hl hQ
  · exact wpAny_pyIter_tuple hl hQ
end
/-- the five new things, one behind the other -/
def zNew (n : Nat) (t1 t2 : Bool) (a b : Addr) : List Obj :=
  [oIt t1 a, oIt t2 b, { cls := .type "tuple", data := .seq #[.ref n, .ref (n + 1)] }, { cls := .type "tuple", data := .seq #[.none, .none] },
   { cls := .type "zip", data := .fields #[.none, .bool false, .bool false, .ref (n + 2), .ref (n + 3)] }]
def pushes (h : Heap) (os : List Obj) : Heap := os.foldl Heap.push h
theorem pushes_size : ∀ (os : List Obj) (h : Heap), (pushes h os).objs.size = h.objs.size + os.length
  | [], _ => rfl
  | o :: os, h => by
    show (pushes (h.push o) os).objs.size = _
    rw [pushes_size os, Heap.size_push, List.length_cons]
    omega
theorem pushes_keep : ∀ (os : List Obj) (h : Heap) (c : Addr) (o : Obj), h.get? c = some o → (pushes h os).get? c = some o
  | [], _, _, _, e => e
  | _ :: os, h, c, o, e => pushes_keep os _ c o (Heap.get?_push_of_some _ e)
theorem pushes_get (os : List Obj) : ∀ (h : Heap) (i : Nat) (o : Obj), os[i]? = some o → o.isFreed = false → (pushes h os).get? (h.objs.size + i) = some o := by
  induction os with
  | nil => intro h i o e _; cases e
  | cons p os ih =>
    intro h i o e f
    cases i with
    | zero =>
      have e : some p = some o := e
      injection e with e
      rw [e]
      exact pushes_keep os (h.push o) _ _ (Heap.get?_push_size _ f)
    | succ i =>
      have r := ih (h.push p) i o e f
      have z : (h.push p).objs.size + i = h.objs.size + (i + 1) := by rw [Heap.size_push]; omega
      rw [z] at r
      exact r
theorem nA {x y : Nat} (h : x < y ∨ y < x) : ¬ @Eq Addr x y := fun e => by
  have e : @Eq Nat x y := e
  omega
theorem meets_new (t1 t2 : Bool) (a b : Addr) (xs ys : Array Value) :
    Meets (Builtin.«zip.__new__» ⟨[.type "zip", .ref a, .ref b], []⟩) (fun _ R s => hSq t1 s.heap a xs ∧ hSq t2 s.heap b ys ∧
      R (.ok (.ret (.ref (s.heap.objs.size + 4)))) { s with heap := pushes s.heap (zNew s.heap.objs.size t1 t2 a b) }) :=
  .of_wp fun prog w A R s h => by
    obtain ⟨hp, g, d, tk, os⟩ := s
    obtain ⟨h1, h2, h⟩ := h
    have hsub := sub_zip
    have h2 : hSq t2 (hp.push (oIt t1 a)) b ys := hSq_up h2 fun o e => Heap.get?_push_of_some _ e
    have q1 : ∀ {A' : Around} {E : Value → Shared → Prop} {Q : Value → Shared → Prop}, Q (.ref hp.objs.size) ⟨hp.push (oIt t1 a), g, d, tk, os⟩ → wpAny (model prog w) A' (pyIter (.ref a)) Q E ⟨hp, g, d, tk, os⟩ :=
      fun q => newM (s := ⟨hp, g, d, tk, os⟩) h1 q
    have q2 : ∀ {A' : Around} {E : Value → Shared → Prop} {Q : Value → Shared → Prop}, Q (.ref (hp.push (oIt t1 a)).objs.size) ⟨(hp.push (oIt t1 a)).push (oIt t2 b), g, d, tk, os⟩ → wpAny (model prog w) A' (pyIter (.ref b)) Q E ⟨hp.push (oIt t1 a), g, d, tk, os⟩ :=
      fun q => newM (s := ⟨hp.push (oIt t1 a), g, d, tk, os⟩) h2 q
    wp_walk using q1, q2
    refine ⟨_, rfl, ?_⟩
    have z1 : ∀ (h : Heap) (o : Obj), (h.push o).objs.size = h.objs.size + 1 := fun h o => Heap.size_push ..
    simp only [z1]
    exact h
section
variable {prog : Program} {w : World} {A : Around} {E : Value → Shared → Prop} {s : Shared}
theorem callM {t1 t2 : Bool} {a b : Addr} {xs ys : Array Value} {Q : Value → Shared → Prop} (h1 : hSq t1 s.heap a xs) (h2 : hSq t2 s.heap b ys)
    (h : Q (.ref (s.heap.objs.size + 4)) { s with heap := pushes s.heap (zNew s.heap.objs.size t1 t2 a b) }) :
    wpAny (model prog w) A (call (.type "zip") [.ref a, .ref b]) Q E s := by
  refine callType_new F.called_zip (by decide) (F.typeCall_zip_2 _ _) (F.newCall_zip_2 _ _) (fun obj => F.args_object_init_3 obj _ _) F.entry_zip_new
    (meets_new t1 t2 a b xs ys) ⟨h1, h2, ⟨_, pushes_get (zNew s.heap.objs.size t1 t2 a b) s.heap 4 _ rfl rfl, rfl⟩, h⟩
end
/-- a turn's pair is new -/
def ItM (K : PySem.W.Frag) (t1 t2 : Bool) (a b : Addr) : It :=
  ⟨fun i H => ∃ xs ys : List V, SqM K t1 H a xs ∧ SqM K t2 H b ys ∧ i < min xs.length ys.length,
    fun i H v H' => ∃ (T : Addr) (x y : V), v = .ref T ∧ H T = none ∧ H' = upd H T (.tup [x, y]) ∧ (∀ xs, SqM K t1 H a xs → xs[i]? = some x) ∧ ∀ ys, SqM K t2 H b ys → ys[i]? = some y,
    fun i H => ∃ xs ys : List V, SqM K t1 H a xs ∧ SqM K t2 H b ys ∧ i = min xs.length ys.length⟩
def StM (t1 t2 : Bool) (n : Nat) (a b : Addr) (i : Nat) (h : Heap) : Prop :=
  IsZip h (n + 4) (n + 2) (n + 3) .none ∧ IsTupOf2 h (n + 2) (.ref n) (.ref (n + 1)) ∧ (∃ x y, IsTupOf2 h (n + 3) x y) ∧ hIt t1 h n a i ∧ hIt t2 h (n + 1) b i
def five (n : Nat) : List Addr := [n + 4, n + 2, n + 3, n, n + 1]
theorem sepM {n a b : Nat} (ha : a < n) (hb : b < n) : ZipSep2 (n + 4) (n + 2) (n + 3) n (n + 1) [n, a] [n + 1, b] := by
  constructor <;> simp only [List.mem_cons, List.not_mem_nil, or_false, ne_eq, not_or, true_or, or_true] <;> first | exact nA (by omega) | exact ⟨nA (by omega), nA (by omega)⟩
theorem turnM {P : Program} {w : World} {K : PySem.W.Frag} {elts : List Expr} {kk : Nat} {tpos : Pos} {t1 t2 : Bool} {n a b : Nat} (ha : a < n) (hb : b < n) :
    Turn P w K (.Tuple elts kk tpos) (ItM K t1 t2 a b) (five n) (n + 4) (StM t1 t2 n a b) where
  mem := List.mem_cons_self
  obj := fun i h st c hc => by
    obtain ⟨g1, g2, ⟨x, y, g3⟩, g4, g5⟩ := st
    simp only [five, List.mem_cons, List.not_mem_nil, or_false] at hc
    rcases hc with q | q | q | q | q <;> subst q
    · exact ⟨_, g1, fun v q => nomatch q⟩
    · exact ⟨_, g2, fun v q => nomatch q⟩
    · exact ⟨_, g3, fun v q => nomatch q⟩
    · exact hIt_there g4
    · exact hIt_there g5
  keep := fun i h h' st k => by
    obtain ⟨g1, g2, ⟨x, y, g3⟩, g4, g5⟩ := st
    have k : ∀ d ∈ five n, ∀ o, h.get? d = some o → h'.get? d = some o := k
    simp only [five, List.forall_mem_cons, List.not_mem_nil] at k
    exact ⟨k.1 _ g1, k.2.1 _ g2, ⟨x, y, k.2.2.1 _ g3⟩, hIt_at g4 k.2.2.2.1, hIt_at g5 k.2.2.2.2.1⟩
  item := by
    intro X hP hw hK hc i pins s σ H E I hf st hg
    subst hP hw hK
    obtain ⟨g1, g2, ⟨x0, y0, g3⟩, g4, g5⟩ := st
    obtain ⟨xs, ys, qx, qy, hi⟩ := hg
    obtain ⟨us, rx, px⟩ := sq_get I qx
    obtain ⟨vs, ry, py⟩ := sq_get I qy
    have lx := rx.length
    have ly := ry.length
    have hdl : X.A.in1.handled = none := I.ok.hd hc
    refine wpAny_pyNext_zipD2_item (sepM ha hb) (drawM hdl t1 n a (Nat.ne_of_lt ha) us.toArray) (drawM hdl t2 (n + 1) b (Nat.ne_of_lt (Nat.lt_succ_of_lt hb)) vs.toArray) g1 g2 g3 ⟨g4, px⟩ ⟨g5, py⟩
      (by rw [List.size_toArray]; omega) (by rw [List.size_toArray]; omega) fun u v h' tk hu hv z1 z3 d1 d2 hT hsz hk => ?_
    have hzl : n + 4 < s.heap.objs.size := Heap.lt_size g1
    refine ⟨_, rfl, wpAny_letOwnedTupleGo_zip (s := { s with heap := h', toks := tk }) z1 fun h2 z2 sb => ?_⟩
    have hT2 : h2.get? s.heap.objs.size = some { cls := .type "tuple", data := .seq #[u, v] } := (sb.2 _ (Nat.ne_of_gt hzl)).trans hT
    obtain ⟨x, ex, rux⟩ : ∃ x, xs[i]? = some x ∧ RelV x u := by
      obtain ⟨u', hu', ru⟩ := rx.get (List.getElem?_eq_getElem (show i < xs.length by omega))
      have : us[i]? = some u := by simpa using hu
      rw [this] at hu'
      cases hu'
      exact ⟨_, List.getElem?_eq_getElem _, ru⟩
    obtain ⟨y, ey, rvy⟩ : ∃ y, ys[i]? = some y ∧ RelV y v := by
      obtain ⟨v', hv', rv⟩ := ry.get (List.getElem?_eq_getElem (show i < ys.length by omega))
      have : vs[i]? = some v := by simpa using hv
      rw [this] at hv'
      cases hv'
      exact ⟨_, List.getElem?_eq_getElem _, rv⟩
    have out : ∀ c, c ∉ five n → c ≠ n + 4 ∧ c ≠ n + 3 ∧ c ≠ n ∧ c ≠ n + 1 := fun c hc => by
      simp only [five, List.mem_cons, List.not_mem_nil, or_false, not_or] at hc
      exact ⟨hc.1, hc.2.2.1, hc.2.2.2.1, hc.2.2.2.2⟩
    have young : ObjOk X.prog X.w (upd H s.heap.objs.size (.tup [x, y])) h2 s.heap.objs.size (.tup [x, y]) :=
      ⟨by show 2 ≤ sizeLine; decide, [u, v], .cons rux (.cons rvy .nil), ⟨_, hT2, rfl, _, rfl⟩⟩
    have I1 : Inv X pins σ (upd H s.heap.objs.size (.tup [x, y])) { s with heap := h2, toks := tk } :=
      I.turnedNew (t' := tk) (ch := five n) (fun c o hb q => by
        obtain ⟨c1, c2, c3, c4⟩ := out c hb
        exact (sb.2 c c1).trans (hk c o c1 c2 c3 c4 q)) hf (Nat.le_refl _) young
    refine ⟨.ref s.heap.objs.size, _, I1, rfl, ⟨_, x, y, rfl, I.hok.fresh (Nat.le_refl _), rfl, fun l hl => by rw [sq_one I hl qx]; exact ex, fun l hl => by rw [sq_one I hl qy]; exact ey⟩, ?_, fun c hcm => ?_⟩
    · have sbk : ∀ c o, c ≠ n + 4 → h'.get? c = some o → h2.get? c = some o := fun c o hc e => (sb.2 c hc).trans e
      have dz : ∀ k : Nat, @LT.lt Nat _ k 4 → ¬ @Eq Addr (n + k) (n + 4) := fun k hk => nA (by omega)
      exact ⟨z2, sbk _ _ (dz 2 (by decide)) (hk _ _ (dz 2 (by decide)) (@nA (n + 2) (n + 3) (by omega)) (@nA (n + 2) n (by omega)) (@nA (n + 2) (n + 1) (by omega)) g2), ⟨u, v, sbk _ _ (dz 3 (by decide)) z3⟩, hIt_at d1.1 fun o e => sbk _ _ (dz 0 (by decide)) e, hIt_at d2.1 fun o e => sbk _ _ (dz 1 (by decide)) e⟩
    · have hlt : c < s.heap.objs.size := by
        have hzl : @LT.lt Nat _ (n + 4) s.heap.objs.size := hzl
        simp only [five, List.mem_cons, List.not_mem_nil, or_false] at hcm
        rcases hcm with q | q | q | q | q <;> subst q <;> show @LT.lt Nat _ _ _ <;> omega
      rw [upd_ne (Nat.ne_of_lt hlt)]
      exact (hf c hcm).1
  done := by
    intro X hP hw hK hc i pins s σ H E I hf st hg
    subst hP hw hK
    obtain ⟨g1, g2, ⟨x0, y0, g3⟩, g4, g5⟩ := st
    obtain ⟨xs, ys, qx, qy, hi⟩ := hg
    obtain ⟨us, rx, px⟩ := sq_get I qx
    obtain ⟨vs, ry, py⟩ := sq_get I qy
    have lx := rx.length
    have ly := ry.length
    have hdl : X.A.in1.handled = none := I.ok.hd hc
    refine wpAny_pyNext_zipD2_end (sepM ha hb) (drawM hdl t1 n a (Nat.ne_of_lt ha) us.toArray) (drawM hdl t2 (n + 1) b (Nat.ne_of_lt (Nat.lt_succ_of_lt hb)) vs.toArray) g1 g2 g3 ⟨g4, px⟩ ⟨g5, py⟩
      (by rw [List.size_toArray]; omega) (by rw [List.size_toArray]; omega) (by rw [List.size_toArray, List.size_toArray]; omega) fun h' tk hk => ⟨rfl, I.turnedL (t' := tk) (ch := five n) (fun c o hb q => ?_) hf⟩
    simp only [five, List.mem_cons, List.not_mem_nil, or_false, not_or] at hb
    exact hk c o hb.1 hb.2.2.1 hb.2.2.2.1 hb.2.2.2.2 q
  self := fun A i s Q E st h => wpAny_pyIter_zip st.1 h
def iZipM (K : PySem.W.Frag) (t1 t2 : Bool) (ta : TA) : TI := fun σ H R => ta σ H fun vs H1 => ∃ (a b : Addr) (xs ys : List V), vs = [.ref a, .ref b] ∧ SqM K t1 H1 a xs ∧ SqM K t2 H1 b ys ∧ R (ItM K t1 t2 a b) H1
theorem pi_zipM {X : Cx} (t1 t2 : Bool) {e e2 : Expr} {ta : TA} {p pos tpos : Pos} {elts : List Expr} {kk : Nat} (hg : Gl X "zip") (hm : X.mg "zip" = none) (ha : PA X [e, e2] ta)
    (hs : starEach [e, e2] X.env = (false, eval e X.env) :: starEach [e2] X.env := by rfl) (hpl : (backTo pos (starEach [e2] X.env)).any (·.1) = false := by rfl) :
    PI X (.Tuple elts kk tpos) (.Call (.Name "zip" p) [e, e2] [] pos) (iZipM X.K t1 t2 ta) := by
  refine ⟨fun pins s σ H R I h => ?_⟩
  refine Call_ (ld_blt I hg hm PyProof.Rows.boot_zip (PyProof.Rows.callWith_type1 (thn (ha.run pos pins s σ H _ I h) fun us s1 ⟨vs, H1, I1, r1, q1⟩ => ?_) hs hpl))
  obtain ⟨a, b, xs, ys, rfl, qx, qy, q⟩ := q1
  obtain ⟨u1, us, rfl, r, r1⟩ : ∃ u1 us', us = u1 :: us' ∧ RelV (.ref a) u1 ∧ Vals [.ref b] us' := by cases r1 with | cons r rr => exact ⟨_, _, rfl, r, rr⟩
  obtain ⟨u2, rfl, r2⟩ := vals1 r1
  cases r
  cases r2
  obtain ⟨is1, rx, px⟩ := sq_get I1 qx
  obtain ⟨is2, ry, py⟩ := sq_get I1 qy
  have la := hSq_lt px
  have lb := hSq_lt py
  refine callM px py ?_
  have gt := fun i o e f => pushes_get (zNew s1.heap.objs.size t1 t2 a b) s1.heap i o e f
  refine wpAny_pyIter_zip (gt 4 _ rfl rfl) ?_
  have I2 : Inv X pins σ H1 { s1 with heap := pushes s1.heap (zNew s1.heap.objs.size t1 t2 a b) } := I1.kept (t' := s1.toks) fun c o e => pushes_keep _ _ c o e
  refine ⟨s1.heap.objs.size + 4, five s1.heap.objs.size, _, _, H1, rfl, I2, turnM la lb, ⟨gt 4 _ rfl rfl, gt 2 _ rfl rfl, ⟨_, _, gt 3 _ rfl rfl⟩, hIt_young (gt 0 _ rfl (by cases t1 <;> rfl)), hIt_young (gt 1 _ rfl (by cases t2 <;> rfl))⟩, fun c hc => ?_, q⟩
  have hle : s1.heap.objs.size ≤ c := by
    simp only [five, List.mem_cons, List.not_mem_nil, or_false] at hc
    rcases hc with q | q | q | q | q <;> subst q <;> show @LE.le Nat _ _ _ <;> omega
  exact I1.fpOk hle (I1.hok.fresh hle)
/-- walked -/
theorem walk_zipM {K : PySem.W.Frag} {t1 t2 : Bool} {a b : Addr} {xs ys : List V} {n : Nat} (hn : n = min xs.length ys.length) :
    Walk (ItM K t1 t2 a b) n (fun H => SqM K t1 H a xs ∧ SqM K t2 H b ys) (YPair (fun i => xs[i]?) (fun i => ys[i]?)) := by
  subst hn
  refine ⟨fun i _ hi q => ⟨xs, ys, q.1, q.2, hi⟩, fun _ q => ⟨xs, ys, q.1, q.2, rfl⟩, fun i H v H' _ q y => ?_⟩
  obtain ⟨T, x, z, h1, h2, h3, h4, h5⟩ := y
  exact ⟨T, x, z, h1, h2, h3, h4 xs q.1, h5 ys q.2⟩
end Zm

set_option Elab.async false
set_option linter.all false
set_option maxRecDepth 100000
set_option maxHeartbeats 1000000
/-! own rules: max(xs, key=lambda x: e) and min, xs a list or a tuple (Zm.SqM), e any expression over the def's shared names and x -/
namespace Lm
open PySem PySem.Spec PyProof.Rows L2 LamX
/-- one parameter, no other name of its own -/
structure LamP (sc scope : Scope) (x : Str) : Prop where
  kind : scope.kind = .function
  co : scope.isCoroutine = false
  gen : scope.isGenerator = false
  par : scope.names.lookup x = some .local
  one : ∀ y ∈ scope.names, y.2 = .local → y.1 = x
  nocell : ∀ y ∈ scope.names, y.2 ≠ .cell
  free : ∀ y ∈ scope.names, y.2 = .free → sc.names.lookup y.1 = some .cell
def lamPB (sc scope : Scope) (x : Str) : Bool :=
  decide (scope.kind = .function) && (!scope.isCoroutine && (!scope.isGenerator && (decide (scope.names.lookup x = some .local) && scope.names.all fun y =>
    (!decide (y.2 = .local) || decide (y.1 = x)) && (!decide (y.2 = .cell) && (!decide (y.2 = .free) || decide (sc.names.lookup y.1 = some .cell))))))
theorem lamP_by {sc scope : Scope} {x : Str} (h : lamPB sc scope x = true) : LamP sc scope x := by
  unfold lamPB at h
  simp only [Bool.and_eq_true, Bool.or_eq_true, Bool.not_eq_true', decide_eq_true_eq, decide_eq_false_iff_not, List.all_eq_true] at h
  obtain ⟨h1, h2, h3, h4, h5⟩ := h
  exact ⟨h1, h2, h3, h4, fun y hy e => (h5 y hy).1.resolve_left fun z => z e, fun y hy => (h5 y hy).2.1, fun y hy e => (h5 y hy).2.2.resolve_left fun z => z e⟩
section
variable {X : Cx} {pins : List (Addr × Obj)} {σ : L2.St} {H : Hp} {s : Shared}
theorem LamP.has {scope : Scope} {x : Str} (L : LamP X.env.scope scope x) (ok : X.Ok) : ∀ y ∈ scope.names, y.2 = .free → ∃ c, X.env.cells.lookup y.1 = some c := fun y hy e => ok.has _ (.inl (L.free y hy e))
/-- what the lambda shares is what the def has -/
theorem clo_sub {scope : Scope} {x : Str} (L : LamP X.env.scope scope x) (ok : X.Ok) {y : Str} {c : Addr} (e : (cloFrom X.env.cells scope.names []).lookup y = some c) : X.env.cells.lookup y = some c := by
  rcases cloFrom_mem (PySem.mem_of_lookup e) with h | ⟨h, hc⟩
  · exact absurd h List.not_mem_nil
  · obtain ⟨d, hd⟩ := L.has ok _ h rfl
    have hd : X.env.cells.lookup y = some d := hd
    have hc : c = (X.env.cells.lookup y).getD 0 := hc
    rw [hd] at hc
    rw [hd, show c = d from hc]
theorem clo_there {scope : Scope} {y : Str} (h : scope.names.lookup y = some .free) : ∃ c, (cloFrom X.env.cells scope.names []).lookup y = some c :=
  mem_lookup (cloFrom_has (cells := X.env.cells) (acc := []) (PySem.mem_of_lookup h))
/-- the lambda's own context, just entered -/
theorem lam_in {A : Around} {E : XK} {scope : Scope} {x : Str} {f c' : Addr} {i : Nat} {v : V} {u : Value} {h1 : Heap} {tk : Nat} (I : Inv X pins σ H s) (L : LamP X.env.scope scope x)
    (e0 : Env0 X.prog X.w X.K X.mg X.base A X.stack s H) (hd : A.handled = none) (hns : h1.Ns s.heap.objs.size fun y => [(x, u)].reverse.lookup y) (kp : ∀ b o, s.heap.get? b = some o → h1.get? b = some o)
    (hN : X.N[i]? = some x) (nd : X.N.Nodup) (r : RelV v u) : Inv (lamCx X A X.stack s H E scope f c') [] (σ.set i (some v)) H { s with heap := h1, toks := tk } := by
  have cellK : ∀ {c : Addr} {z : Option Value}, s.heap.IsCell c z → h1.IsCell c z := fun ⟨o, ho, hd⟩ => ⟨o, kp _ _ ho, hd⟩
  have none_ex : ∀ b : Addr, b ∉ (lamCx X A X.stack s H E scope f c').ex := fun b => List.not_mem_nil
  constructor
  · constructor
    · exact e0.mod
    · exact L.kind
    · rfl
    · rfl
    · exact Nat.le_refl _
    · exact fun y z c a b => I.ok.inj y z c (clo_sub L I.ok a) (clo_sub L I.ok b)
    · intro y hy
      have hy : scope.names.lookup y = some .cell ∨ scope.names.lookup y = some .free := hy
      rcases hy with h | h
      · exact absurd rfl (L.nocell _ (PySem.mem_of_lookup h))
      · exact clo_there h
    · intro y c z
      exact absurd (show false = true from z) Bool.false_ne_true
    · exact fun _ => hd
    · exact Around.frames_deeper e0.frames
    · exact .inr ⟨rfl, rfl⟩
    · exact fun b z => absurd z (none_ex b)
    · exact e0.bs
    · exact e0.bsz
    · exact fun b _ _ => none_ex b
    · exact fun b z => absurd z (none_ex b)
    · exact e0.funs
    · exact e0.frf
  · rfl
  · exact e0.bare
  · exact Un.kept kp
  · refine ⟨_, hns, fun j y w hj hw hv => ?_⟩
    have hj : X.N[j]? = some y := hj
    have hv : Vis scope y := hv
    have other : scope.names.lookup y = some .free → ∃ w', RelV w w' ∧ Look (lamEnv X scope s.heap.objs.size f c') h1 (fun y => [(x, u)].reverse.lookup y) y w' := fun k => by
      have hyx : j ≠ i := fun z => by
        rw [z, hN] at hj
        cases hj
        rw [L.par] at k
        cases k
      rw [List.getElem?_set_ne (fun z => hyx z.symm)] at hw
      obtain ⟨m, _, hl⟩ := I.loc
      have kc := L.free _ (PySem.mem_of_lookup k) rfl
      obtain ⟨w', rw', lk⟩ := hl j y w hj hw (.inr (.inl kc))
      refine ⟨w', rw', .inr ⟨.inr k, ?_⟩⟩
      obtain ⟨d, hd'⟩ := clo_there (X := X) k
      have hd2 := clo_sub L I.ok hd'
      rcases lk with ⟨k', _⟩ | ⟨_, d3, e3, hc⟩
      · rw [show X.env.kindOf y = some .cell from kc] at k'
        cases k'
      · rw [hd2] at e3
        cases e3
        exact ⟨d, hd', cellK hc⟩
    rcases hv with k | k | k
    · have hyx : y = x := L.one _ (PySem.mem_of_lookup k) rfl
      subst hyx
      have hji : j = i := by
        obtain ⟨hj1, hj2⟩ := List.getElem?_eq_some_iff.mp hj
        obtain ⟨hi1, hi2⟩ := List.getElem?_eq_some_iff.mp hN
        rcases Nat.lt_trichotomy j i with z | z | z
        · exact absurd (hj2.trans hi2.symm) (List.pairwise_iff_getElem.mp nd j i hj1 hi1 z)
        · exact z
        · exact absurd (hi2.trans hj2.symm) (List.pairwise_iff_getElem.mp nd i j hi1 hj1 z)
      subst hji
      have hl : j < σ.length := by
        rw [I.len]
        exact (List.getElem?_eq_some_iff.mp hN).1
      rw [List.getElem?_set_self hl] at hw
      cases hw
      refine ⟨u, r, .inl ⟨k, ?_⟩⟩
      show [(y, u)].lookup y = some u
      rw [List.lookup_cons, beq_self_eq_true]
    · exact absurd rfl (L.nocell _ (PySem.mem_of_lookup k))
    · exact other k
  · intro y c e
    obtain ⟨z, hz⟩ := I.cell y c (clo_sub L I.ok e)
    exact ⟨z, cellK hz⟩
  · exact e0.hok.fresh (Nat.le_refl _)
  · exact fun y c e => I.freeC y c (clo_sub L I.ok e)
  · exact fun q hq => absurd (show q ∈ ([] : List (Addr × Obj)) ++ [] from hq) List.not_mem_nil
  · exact e0.hok.kept kp
  · rw [List.length_set]
    exact I.len
/-- the lambda called with one thing, within a builtin -/
theorem lam_call {k i : Nat} {x : Str} {f c' : Addr} {params : Arguments} {body : Expr} {scope : Scope} {pm ctv u : Value} {v : V} {tb : TE} {Q : VK} {E : Value → Shared → Prop} (I : Inv X pins σ H s) (L : LamP X.env.scope scope x)
    (hf : s.heap.get? f = some (PySem.W.kla_obj "<lambda>" (X.env.qual ++ "<lambda>") params body scope (cloFrom X.env.cells scope.names []) pm c' ctv)) (hco : H c' = some (CodeO c' (X.env.qual ++ "<lambda>")))
    (hbind : ∀ v : Value, bindArgs (PySem.W.kla_fn "<lambda>" (X.env.qual ++ "<lambda>") params body scope (cloFrom X.env.cells scope.names []) pm (.ref c') ctv) ⟨[v], []⟩ = pure [(x, v)])
    (hr : Room (k + 2) X.A) (hd : X.A.handled = none) (hbody : ∀ (A : Around) (outer : List Env) (s : Shared) (H : Hp), Room k (A.deeper (lamEnv X scope s.heap.objs.size f c')) → PE (lamCx X A outer s H E0 scope f c').nox body tb)
    (hN : X.N[i]? = some x) (nd : X.N.Nodup) (r : RelV v u) (ht : tb (σ.set i (some v)) H Q) :
    wpAny (model X.prog X.w) X.A.in1 (call (.ref f) [u]) (fun u' s' => ∃ (v' : V) (H' : Hp), Inv X pins σ H' s' ∧ Un (frs X.stack) [] H H' s.heap s'.heap ∧ RelV v' u' ∧ Q v' H') E s := by
  obtain ⟨⟨oc, us, tq, o1, o2, o3⟩, _, _⟩ := I.hok c' _ hco
  have hr1 : Room (k + 1) X.A.in1 := hr.in1
  refine wpAny_call (PySem.W.kla_callFunE hr1.depth hf rfl L.co L.gen rfl ⟨c', oc, us, tq, rfl, o1, o2, o3⟩ ?_)
  rw [hbind]
  refine wpAny_pure (wpAny_newFunctionEnv L.nocell (fun z hz => by rw [List.mem_singleton.mp hz]; exact L.par) (fun h1 hns hsb => ⟨I.nolimit.fresh _ hsb, ?_⟩) L.kind)
  have kp : ∀ b o, s.heap.get? b = some o → h1.get? b = some o := fun b o e => hsb.extBut b o (Nat.ne_of_lt (Heap.lt_size e)) (Heap.get?_push_of_some _ e)
  have e0 : Env0 X.prog X.w X.K X.mg X.base X.A.in1 X.stack s H := I.env0.in1
  have J := lam_in (E := E0) (f := f) (c' := c') (tk := s.toks + ([(x, u)] : List (Str × Value)).length) I L e0 hd hns kp hN nd r
  refine PySem.W.kla_codeExpr (wpAny_mono ((hbody _ _ s H (hr1.deeper _)).run [] _ _ H Q (J.wish _) ht) (fun v' s' hq => ?_) fun e s' hq => hq.elim)
  obtain ⟨w', H', J', rv, q⟩ := hq
  have J2 := J'.unwish
  exact ⟨w', H', I.call' J2.os J2.base J2.hok J2.bare (fun b z => absurd z List.not_mem_nil), J2.base, rv, q⟩
end
/-- the first of the greatest -/
def FirstMost (kf : Nat → Int) (n j : Nat) : Prop := Cl.FirstLeast (fun i => -kf i) n j
theorem most_is (kf : Nat → Int) (n : Nat) : FirstMost kf (n + 1) (argBest (fun i j => decide (kf i > kf j)) n) := by
  have e : (fun i j => decide (kf i > kf j)) = fun i j => decide (-kf i < -kf j) := by
    funext i j
    exact decide_eq_decide.mpr ⟨fun z => by omega, fun z => by omega⟩
  rw [e]
  exact Cl.best_is _ n
open Zm (SqM hSq hIt nIt oIt newM sq_get)
theorem sqM_ext {K : PySem.W.Frag} {t : Bool} {H H' : Hp} {a : Addr} {xs : List V} (e : ExtN H H') (h : SqM K t H a xs) : SqM K t H' a xs := by
  cases t
  · exact e.sqL h
  · exact e.sqT h
section
variable {prog : Program} {w : World} {A : Around}
/-- the library's walk, told of the values' readings -/
theorem walkM (hh : A.handled = none) (t : Bool) (it a : Addr) (hne : a ≠ it) (xs : List V) :
    WalksS prog w A it [it, a] [it] (fun a b => b = a) xs.length (fun i v => ∃ y, xs[i]? = some y ∧ RelV y v) (fun i s => hIt t s.heap it a i ∧ ∃ its : List Value, Vals xs its ∧ hSq t s.heap a its.toArray) := by
  have base : ∀ its : List Value, WalksS prog w A it [it, a] [it] (fun a b => b = a) its.toArray.size (fun i v => its.toArray[i]? = some v) (fun i s => hIt t s.heap it a i ∧ hSq t s.heap a its.toArray) := fun its => by
    cases t
    · exact (Walks.list (A := A) hh it a hne its.toArray).toS
    · exact (Walks.tuple (A := A) hh it a hne its.toArray).toS
  have size : ∀ {its : List Value}, Vals xs its → its.toArray.size = xs.length := fun r => by
    rw [List.size_toArray]
    exact r.length.symm
  constructor
  · exact (base []).sub
  · exact (base []).grefl
  · exact (base []).gtrans
  · rintro i s h' tk ⟨st, its, r, p⟩ le k
    obtain ⟨a1, a2⟩ := (base its).frame i s h' tk ⟨st, p⟩ le k
    exact ⟨a1, its, r, a2⟩
  · rintro i s Q E hi ⟨st, its, r, p⟩ hQ
    refine (base its).item i s Q E (by rw [size r]; exact hi) ⟨st, p⟩ fun v s' hv st' m => hQ v s' ?_ ⟨st'.1, its, r, st'.2⟩ m
    obtain ⟨v', e1, rr⟩ := r.get (List.getElem?_eq_getElem hi)
    have hv : its[i]? = some v := by simpa using hv
    rw [hv] at e1
    cases e1
    exact ⟨_, List.getElem?_eq_getElem hi, rr⟩
  · rintro s Q E ⟨st, its, r, p⟩ hQ
    exact (base its).done s Q E ⟨by rw [size r]; exact st, p⟩ hQ
  · rintro i s Q E ⟨st, its, r, p⟩ hQ
    exact (base its).self i s Q E ⟨st, p⟩ hQ
end
/-- what the key is asked of, and what comes of it -/
def tBestLam (K : PySem.W.Frag) (best : (Nat → Int) → Nat → Nat → Prop) (t : Bool) (T : List (Addr × Str)) (i : Nat) (te tb : TE) : TE := fun σ H Q => te σ H fun v H1 => ∃ (a : Addr) (xs : List V) (kf : Nat → Int), v = .ref a ∧ SqM K t H1 a xs ∧ 0 < xs.length ∧ Tabs T H1 ∧
  ∀ (H2 : Hp), ExtN H1 H2 → Tabs T H2 →
    (∀ (j : Nat) (y : V) (H' : Hp), xs[j]? = some y → ExtN H2 H' → Tabs T H' → tb (σ.set i (some y)) H' fun k H'' => k = .int (kf j) ∧ ExtN H' H'' ∧ Tabs T H'') ∧
    ∀ (j : Nat) (y : V) (H' : Hp), best kf xs.length j → xs[j]? = some y → ExtN H2 H' → Tabs T H' → Q y H'
section
variable {X : Cx}
/-- the loop's state between two keys, and one key -/
structure KeySt (X : Cx) (pins : List (Addr × Obj)) (σ : L2.St) (t : Bool) (T : List (Addr × Str)) (H2 : Hp) (a f c' it S : Addr) (xs : List V) (lo : Obj) (s' : Shared) (H' : Hp) : Prop where
  inv : Inv X pins σ H' s'
  ext : ExtN H2 H'
  tab : Tabs T H'
  sq : SqM X.K t H' a xs
  lam : s'.heap.get? f = some lo
  nf : H' f = none
  fS : FpOk X pins H' S
  fI : FpOk X pins H' it
variable {pins : List (Addr × Obj)} {σ : L2.St} {t : Bool} {T : List (Addr × Str)} {H2 : Hp} {a f c' it S : Addr} {xs : List V} {lo : Obj}
theorem KeySt.moved {s4 s5 : Shared} {H' : Hp} (k : KeySt X pins σ t T H2 a f c' it S xs lo s4 H') (hS : f ≠ S) (hI : f ≠ it) (m : Moved [S, it] (fun a b => b = a) s4 s5) : KeySt X pins σ t T H2 a f c' it S xs lo s5 H' := by
  have e5 : s5 = { s4 with heap := s5.heap, toks := s5.toks } := by
    obtain ⟨hp, g, d, tk, os⟩ := s5
    have h1 : g = s4.gens := m.gens
    have h2 : d = s4.drawn := m.drawn
    have h3 : os = s4.os := m.os
    subst h1 h2 h3
    rfl
  refine ⟨?_, k.ext, k.tab, k.sq, m.heap _ _ (fun hm => ?_) k.lam, k.nf, k.fS, k.fI⟩
  · rw [e5]
    exact k.inv.turnedL (ch := [S, it]) (fun c o hc ho => m.heap c o hc ho) (fun b hb => by
      rcases List.mem_cons.mp hb with z | hb
      · rw [z]; exact k.fS
      · rw [List.mem_singleton.mp hb]; exact k.fI)
  · rcases List.mem_cons.mp hm with z | hm
    · exact hS z
    · exact hI (List.mem_singleton.mp hm)
theorem FpOk.through {b : Addr} {ob : Obj} {s4 s5 : Shared} {H' H'' : Hp} (I : Inv X pins σ H' s4) (un : Un (frs X.stack) [] H' H'' s4.heap s5.heap) (hb : s4.heap.get? b = some ob) (fp : FpOk X pins H' b) : FpOk X pins H'' b ∧ s5.heap.get? b = some ob := by
  refine ⟨⟨un.free b ob hb fp.1 List.not_mem_nil, fp.2⟩, un.keep b ob hb fp.1 (fun z => ?_) List.not_mem_nil⟩
  rcases List.mem_cons.mp (I.stkSub _ z) with w | w
  · exact fp.2.1 w
  · exact fp.2.2.1 w
/-- both builtins, behind the making of the lambda -/
theorem best_run {k i : Nat} {x : Str} {params : Arguments} {body : Expr} {scope : Scope} {pm ctv : Value} {kf : Nat → Int} {tb : TE} {s2 : Shared} {Q : VK} (w : Bool) (I2 : Inv X pins σ H2 s2) (hr : Room (k + 2) X.A) (hh : X.A.handled = none)
    (L : LamP X.env.scope scope x) (hN : X.N[i]? = some x) (nd : X.N.Nodup) (hsq : SqM X.K t H2 a xs) (hne : 0 < xs.length) (T2 : Tabs T H2)
    (hf : s2.heap.get? f = some (PySem.W.kla_obj "<lambda>" (X.env.qual ++ "<lambda>") params body scope (cloFrom X.env.cells scope.names []) pm c' ctv)) (hfn : H2 f = none) (hff : f ∉ frs X.stack) (hco : H2 c' = some (CodeO c' (X.env.qual ++ "<lambda>")))
    (hbind : ∀ (q : Str) (cl : List (Str × Addr)) (pm cv ctv v : Value), bindArgs (PySem.W.kla_fn "<lambda>" q params body scope cl pm cv ctv) ⟨[v], []⟩ = pure [(x, v)])
    (hbody : ∀ (A : Around) (outer : List Env) (s : Shared) (H : Hp) (f c' : Addr), Room k (A.deeper (lamEnv X scope s.heap.objs.size f c')) → PE (lamCx X A outer s H E0 scope f c').nox body tb)
    (qk : ∀ (j : Nat) (y : V) (H' : Hp), xs[j]? = some y → ExtN H2 H' → Tabs T H' → tb (σ.set i (some y)) H' fun k H'' => k = .int (kf j) ∧ ExtN H' H'' ∧ Tabs T H'')
    (qf : ∀ (j : Nat) (y : V) (H' : Hp), (if w = true then FirstMost kf xs.length j else Cl.FirstLeast kf xs.length j) → xs[j]? = some y → ExtN H2 H' → Tabs T H' → Q y H') :
    wpAny (model X.prog X.w) X.A (call (.builtin (if w = true then "max" else "min")) [.ref a] [(Str.ofString "key", .ref f)]) (EP X pins σ Q) X.xe s2 := by
  obtain ⟨its, rv0, p0⟩ := sq_get I2 hsq
  have hnI := I2.hok.fresh (Nat.le_refl s2.heap.objs.size)
  have flt : f < s2.heap.objs.size := Heap.lt_size hf
  have alt := Zm.hSq_lt p0
  -- what is the same for both
  have core : ∀ (bt : Nat → Nat → Bool) (op : CmpOp), (∀ i j ki kj (s : Shared) (Q : Value → Shared → Prop) (E : Value → Shared → Prop), (∃ t, ki = .int (kf i) t) → (∃ t, kj = .int (kf j) t) → Q (.bool (bt i j)) s → wpAny (model X.prog X.w) X.A.in1 (richCompare op ki kj) Q E s) →
      (∀ j y H', j = argBest bt (xs.length - 1) → xs[j]? = some y → ExtN H2 H' → Tabs T H' → Q y H') →
      wpAny (model X.prog X.w) X.A.in1 (pyIter (.ref a)) (fun it s₂ => ∃ I fp wr G n P St J V bt, it = .ref I ∧ WalksS X.prog X.w X.A.in1 I fp wr G n P St ∧ St 0 s₂ ∧ (∀ b ∈ fp, b < s₂.heap.objs.size) ∧ 0 < n ∧
        KeyRun X.prog X.w X.A.in1 (.ref f) op s₂.heap.objs.size wr G n P St J V bt ∧ J s₂ ∧ ∀ v s', P (argBest bt (n - 1)) v → J s' → EP X pins σ Q v s') X.xe s2 := fun bt op hcmp hend => by
    refine newM p0 ?_
    have szp : (s2.heap.push (oIt t a)).objs.size = s2.heap.objs.size + 1 := Heap.size_push ..
    have ltp : s2.heap.objs.size < (s2.heap.push (oIt t a)).objs.size := by rw [szp]; exact Nat.lt_succ_self _
    have fpI : FpOk X pins H2 s2.heap.objs.size := I2.fpOk (Nat.le_refl _) hnI
    have fpS : FpOk X pins H2 (s2.heap.push (oIt t a)).objs.size := I2.fpOk (Nat.le_of_lt ltp) (I2.hok.fresh (Nat.le_of_lt ltp))
    have hfI : f ≠ s2.heap.objs.size := fun z => by rw [z] at flt; exact Nat.lt_irrefl _ flt
    have hfS : f ≠ (s2.heap.push (oIt t a)).objs.size := fun z => by
      rw [z] at flt
      exact Nat.lt_irrefl _ (Nat.lt_trans flt ltp)
    refine ⟨s2.heap.objs.size, _, _, _, xs.length, _, _, fun s' => ∃ H', KeySt X pins σ t T H2 a f c' s2.heap.objs.size (s2.heap.push (oIt t a)).objs.size xs (PySem.W.kla_obj "<lambda>" (X.env.qual ++ "<lambda>") params body scope (cloFrom X.env.cells scope.names []) pm c' ctv) s' H',
      fun i k _ => ∃ t, k = .int (kf i) t, bt, rfl, walkM (prog := X.prog) (w := X.w) (A := X.A.in1) hh t s2.heap.objs.size a (Nat.ne_of_lt alt) xs, ⟨Zm.hIt_young (Heap.get?_push_size _ (by cases t <;> rfl)), its, rv0, Zm.hSq_up p0 fun o e => Heap.get?_push_of_some _ e⟩, fun b hb => ?_, hne, ⟨?_, ?_, ?_, ?_⟩, ?_, ?_⟩
    · show b < (s2.heap.push (oIt t a)).objs.size
      rcases List.mem_cons.mp hb with z | hb
      · rw [z]; exact ltp
      · rw [List.mem_singleton.mp hb]; exact Nat.lt_trans alt ltp
    · rintro s4 s5 ⟨H', k'⟩ m
      exact ⟨H', k'.moved hfS hfI m⟩
    · exact fun i k s1 s' v _ => v
    · rintro j v s4 o Q' E' hj ⟨y, hy, ry⟩ ⟨H', k'⟩ ⟨stI, its', rv', stL⟩ hS cont
      have hco' : H' c' = some (CodeO c' (X.env.qual ++ "<lambda>")) := k'.ext _ _ hco codeO_ne
      refine wpAny_mono (lam_call (Q := fun k H'' => k = .int (kf j) ∧ ExtN H' H'' ∧ Tabs T H'') k'.inv L k'.lam hco' (fun v => hbind _ _ _ _ _ v) hr hh (fun A outer s H hr2 => hbody A outer s H f c' hr2) hN nd ry (qk j y H' hy k'.ext k'.tab)) (fun u' s5 hq => ?_) fun _ _ z => z
      obtain ⟨v', H'', I'', un, rv2, ek, sm, tb2⟩ := hq
      subst ek
      obtain ⟨tk, rfl⟩ := rv2
      obtain ⟨oi, hoi, _⟩ := Zm.hIt_there stI
      obtain ⟨g1, g2⟩ := FpOk.through k'.inv un hS k'.fS
      obtain ⟨g3, g4⟩ := FpOk.through k'.inv un hoi k'.fI
      have sq2 := sqM_ext sm k'.sq
      obtain ⟨its2, rw2, p2⟩ := sq_get I'' sq2
      exact cont _ s5 ⟨H'', I'', k'.ext.trans sm, tb2, sq2, un.keep _ _ k'.lam k'.nf hff List.not_mem_nil, un.free _ _ k'.lam k'.nf List.not_mem_nil, g1, g3⟩ ⟨Zm.hIt_at stI fun o ho => by rw [hoi] at ho; cases ho; exact g4, its2, rw2, p2⟩ g2 ⟨tk, rfl⟩ fun _ _ z => z
    · intro i j ki kj s4 Q' E' _ vi vj q'
      exact hcmp i j ki kj s4 Q' E' vi vj q'
    · exact ⟨H2, I2.kept (t' := s2.toks) fun b o e => Heap.get?_push_of_some _ e, ExtN.refl _, T2, hsq, Heap.get?_push_of_some _ hf, hfn, fpS, fpI⟩
    · rintro v s5 ⟨y, hy, ry⟩ ⟨H', k'⟩
      exact ⟨y, H', k'.inv, ry, hend _ y H' rfl hy k'.ext k'.tab⟩
  obtain ⟨n, en⟩ : ∃ n, xs.length = n + 1 := ⟨xs.length - 1, by omega⟩
  cases w
  · refine call_min_walkK (core (fun i j => decide (kf i < kf j)) .Lt (fun i j ki kj s Q' E' vi vj q' => CmpOf.ints_lt (prog := X.prog) (w := X.w) (A := X.A.in1) (P := fun i v => ∃ t, v = .int (kf i) t) kf (fun i v h => h) i j ki kj s Q' E' vi vj q') fun j y H' hj hy e tt => qf j y H' ?_ hy e tt)
    rw [if_neg Bool.false_ne_true, hj, en]
    exact Cl.best_is kf n
  · refine call_max_walkK (core (fun i j => decide (kf i > kf j)) .Gt (fun i j ki kj s Q' E' vi vj q' => CmpOf.ints_gt (prog := X.prog) (w := X.w) (A := X.A.in1) (P := fun i v => ∃ t, v = .int (kf i) t) kf (fun i v h => h) i j ki kj s Q' E' vi vj q') fun j y H' hj hy e tt => qf j y H' ?_ hy e tt)
    rw [if_pos rfl, hj, en]
    exact most_is kf n
variable {c P : Addr} {k i : Nat} {p lpos kpos pos : Pos} {e body : Expr} {te tb : TE} {x : Str} {params : Arguments} {scope : Scope}
/-- max(e, key=lambda x: body); t: e is a tuple -/
theorem pe_maxlam (t : Bool) (hg : Gl X "max") (hm : X.mg "max" = none) (he : PE X e te) (hr : Room (k + 2) X.A) (hh : X.A.handled = none) (TB : TabB X.base X.mg c P) (hcode : X.env.code = .ref c) (hmT : (P, X.env.qual ++ "<lambda>") ∈ T)
    (hu : ∀ q ∈ T, q.1 = P → q.2 = X.env.qual ++ "<lambda>") (L : LamP X.env.scope scope x) (hN : X.N[i]? = some x) (nd : X.N.Nodup) (hdef : defaultsOf params X.env = ([], []))
    (hbind : ∀ (q : Str) (cl : List (Str × Addr)) (pm cv ctv v : Value), bindArgs (PySem.W.kla_fn "<lambda>" q params body scope cl pm cv ctv) ⟨[v], []⟩ = pure [(x, v)])
    (hbody : ∀ (A : Around) (outer : List Env) (s : Shared) (H : Hp) (f c' : Addr), Room k (A.deeper (lamEnv X scope s.heap.objs.size f c')) → PE (lamCx X A outer s H E0 scope f c').nox body tb)
    (hs : starEach [e] X.env = (false, eval e X.env) :: starEach [] X.env := by rfl) :
    PE X (.Call (.Name "max" p) [e] [⟨some "key", .Lambda params body scope lpos, kpos⟩] pos) (tBestLam X.K FirstMost t T i te tb) := by
  refine ⟨fun pins s σ H Q I h => ?_⟩
  refine wpAny_Call_Name_kw (ld_blt I hg hm (u := .builtin "max") (by decide +kernel) ?_)
  refine PyProof.Rows.callWith_kw ?_ (by rw [hs]; rfl) (by rw [hs]; rfl) (by rfl) (by rfl)
  rw [hs]
  show wpAny _ _ (spliced ((false, eval e X.env) :: backTo pos (starEach [] X.env))) _ _ s
  refine Calls.spliced_cons (thn (he.run pins s σ H _ I h) fun u s1 ⟨v, H1, I1, r1, a, xs, kf, ev, hl, hne, hT, q⟩ => Calls.spliced_nil ?_)
  subst ev
  obtain rfl : u = Value.ref a := r1
  show wpAny _ _ (evalAll ((do let v ← eval (.Lambda params body scope lpos) X.env; standAt pos; pure v) :: [])) _ _ s1
  refine wpAny_evalAll_cons (wpAny_bind (lam_make2 I1 TB hcode hmT hu hT hdef (L.has I1.ok) fun f c' pm ctv H2 s2 I2 eN T2 hf hfn hff hco => wpAny_bind (wpAny_standAt (wpAny_pure (wpAny_evalAll_nil ?_)))))
  obtain ⟨qk, qf⟩ := q H2 eN T2
  exact best_run (w := true) (kf := kf) I2 hr hh L hN nd (sqM_ext eN hl) hne T2 hf hfn hff hco hbind hbody qk fun j y H' h => qf j y H' h
/-- min(e, key=lambda x: body) -/
theorem pe_minlam (t : Bool) (hg : Gl X "min") (hm : X.mg "min" = none) (he : PE X e te) (hr : Room (k + 2) X.A) (hh : X.A.handled = none) (TB : TabB X.base X.mg c P) (hcode : X.env.code = .ref c) (hmT : (P, X.env.qual ++ "<lambda>") ∈ T)
    (hu : ∀ q ∈ T, q.1 = P → q.2 = X.env.qual ++ "<lambda>") (L : LamP X.env.scope scope x) (hN : X.N[i]? = some x) (nd : X.N.Nodup) (hdef : defaultsOf params X.env = ([], []))
    (hbind : ∀ (q : Str) (cl : List (Str × Addr)) (pm cv ctv v : Value), bindArgs (PySem.W.kla_fn "<lambda>" q params body scope cl pm cv ctv) ⟨[v], []⟩ = pure [(x, v)])
    (hbody : ∀ (A : Around) (outer : List Env) (s : Shared) (H : Hp) (f c' : Addr), Room k (A.deeper (lamEnv X scope s.heap.objs.size f c')) → PE (lamCx X A outer s H E0 scope f c').nox body tb)
    (hs : starEach [e] X.env = (false, eval e X.env) :: starEach [] X.env := by rfl) :
    PE X (.Call (.Name "min" p) [e] [⟨some "key", .Lambda params body scope lpos, kpos⟩] pos) (tBestLam X.K Cl.FirstLeast t T i te tb) := by
  refine ⟨fun pins s σ H Q I h => ?_⟩
  refine wpAny_Call_Name_kw (ld_blt I hg hm (u := .builtin "min") (by decide +kernel) ?_)
  refine PyProof.Rows.callWith_kw ?_ (by rw [hs]; rfl) (by rw [hs]; rfl) (by rfl) (by rfl)
  rw [hs]
  show wpAny _ _ (spliced ((false, eval e X.env) :: backTo pos (starEach [] X.env))) _ _ s
  refine Calls.spliced_cons (thn (he.run pins s σ H _ I h) fun u s1 ⟨v, H1, I1, r1, a, xs, kf, ev, hl, hne, hT, q⟩ => Calls.spliced_nil ?_)
  subst ev
  obtain rfl : u = Value.ref a := r1
  show wpAny _ _ (evalAll ((do let v ← eval (.Lambda params body scope lpos) X.env; standAt pos; pure v) :: [])) _ _ s1
  refine wpAny_evalAll_cons (wpAny_bind (lam_make2 I1 TB hcode hmT hu hT hdef (L.has I1.ok) fun f c' pm ctv H2 s2 I2 eN T2 hf hfn hff hco => wpAny_bind (wpAny_standAt (wpAny_pure (wpAny_evalAll_nil ?_)))))
  obtain ⟨qk, qf⟩ := q H2 eN T2
  exact best_run (w := false) (kf := kf) I2 hr hh L hN nd (sqM_ext eN hl) hne T2 hf hfn hff hco hbind hbody qk fun j y H' h => qf j y H' h
end
end Lm

set_option Elab.async false
set_option linter.all false
set_option maxRecDepth 100000
set_option maxHeartbeats 1000000
/-! own rules: == and != of two dicts whose values are ints, equal or not -/
namespace Dq
open PySem PySem.Spec PyProof.Rows L2
abbrev KVs : Type := List (Key × V)
def eqDB (ks ls : List (Key × V)) : Bool := decide (ks.length = ls.length) && ks.all fun p => decide (valV ls p.1 = some p.2)
def IntVs (ks : List (Key × V)) : Prop := ∀ p ∈ ks, ∃ i : Int, p.2 = .int i
theorem valV_mem {kvs : List (Key × V)} {k : Key} {v : V} (h : valV kvs k = some v) : (k, v) ∈ kvs := by
  unfold valV at h
  obtain ⟨p, hp, rfl⟩ := Option.map_eq_some_iff.mp h
  have e := List.find?_some hp
  rw [show k = p.1 from (of_decide_eq_true e).symm]
  exact List.mem_of_find?_eq_some hp
section
variable {A : Around} {s : Shared} {ls : List (Key × V)} {vb : List (Key × Value)}
theorem hits_ints (rb : KV ls vb) (hl : IntVs ls) : ∀ {ks : List (Key × V)} {va : List (Key × Value)}, KV ks va → IntVs ks → PySem.W.KeqHits A s vb va (ks.all fun p => decide (valV ls p.1 = some p.2)) := by
  intro ks va ra
  unfold KV at ra
  induction ra with
  | nil => exact fun _ => .nil
  | @cons p q ps qs h t ih =>
    intro hk
    obtain ⟨h1, h2⟩ := h
    have h1 : p.1 = q.1 := h1
    obtain ⟨i, ei⟩ := hk p List.mem_cons_self
    have tail := ih fun z hz => hk z (List.mem_cons_of_mem _ hz)
    have rr := rb.val p.1
    rw [List.all_cons]
    cases e : valV ls p.1 with
    | none =>
      rw [e] at rr
      have hn : valueAt vb q.1 = none := by
        rw [← h1]
        cases z : valueAt vb p.1 with
        | none => rfl
        | some y => rw [z] at rr; exact rr.elim
      rw [decide_eq_false (fun z => nomatch z), Bool.false_and]
      exact .miss (v := q.2) hn
    | some u =>
      obtain ⟨j, ej⟩ := hl _ (valV_mem e)
      have ej : u = .int j := ej
      subst ej
      rw [e] at rr
      obtain ⟨y, hy, ry⟩ := rr.some_of
      rw [h1] at hy
      obtain ⟨t1, rfl⟩ := ry
      rw [ei] at h2 ⊢
      obtain ⟨t2, e2⟩ := h2
      obtain ⟨k, v⟩ := q
      have e2 : v = .int i t2 := e2
      subst e2
      rw [show decide (some (V.int j) = some (V.int i)) = (i == j) from by
        rw [Bool.eq_iff_iff, decide_eq_true_eq, beq_iff_eq]
        exact ⟨fun z => by injection z with z; injection z with z; exact z.symm, fun z => by rw [z]⟩]
      exact .hit hy (SeqAt.EqAt.int_int _ _ _ _) tail
end
def rEqDI : R2 := fun x y H Q => ∃ (a b : Addr) (ks ls : List (Key × V)), x = .ref a ∧ y = .ref b ∧ H a = some (.dK ks) ∧ H b = some (.dK ls) ∧ IntVs ks ∧ IntVs ls ∧ Q (.bl (eqDB ks ls)) H
def rNeDI : R2 := fun x y H Q => ∃ (a b : Addr) (ks ls : List (Key × V)), x = .ref a ∧ y = .ref b ∧ H a = some (.dK ks) ∧ H b = some (.dK ls) ∧ IntVs ks ∧ IntVs ls ∧ Q (.bl (!eqDB ks ls)) H
section
variable {X : Cx}
theorem len_dec {α β : Type} (xs : List α) (ys : List β) : (xs.length == ys.length) = decide (xs.length = ys.length) := by
  rw [Bool.eq_iff_iff, beq_iff_eq, decide_eq_true_eq]
theorem op_eqDI (hu : X.A.units < cLine) : OpR X (compareOp .Eq) rEqDI := by
  rintro pins s σ H x y v u Q I rx ry ⟨a, b, ks, ls, rfl, rfl, ea, eb, ia, ib, q⟩
  cases rx
  cases ry
  obtain ⟨_, ya, va, ra, da⟩ := dk_of I.hok ea
  obtain ⟨_, yb, vb, rb, db⟩ := dk_of I.hok eb
  refine PySem.W.keq_eq (knd := mixKind X.prog X.w) ya yb da db hu (fun _ => hits_ints rb ib ra ia) (fin_bl I q ?_)
  unfold eqDB
  rw [len_dec, ra.length, rb.length]
theorem op_neDI (hu : X.A.units < cLine) : OpR X (compareOp .NotEq) rNeDI := by
  rintro pins s σ H x y v u Q I rx ry ⟨a, b, ks, ls, rfl, rfl, ea, eb, ia, ib, q⟩
  cases rx
  cases ry
  obtain ⟨_, ya, va, ra, da⟩ := dk_of I.hok ea
  obtain ⟨_, yb, vb, rb, db⟩ := dk_of I.hok eb
  refine PySem.W.keq_ne (knd := mixKind X.prog X.w) ya yb da db hu (fun _ => hits_ints rb ib ra ia) (fin_bl I q ?_)
  unfold eqDB
  rw [len_dec, ra.length, rb.length]
/-- the same, as a part of something -/
def DDI : Eqv := fun x y H => ∃ (a b : Addr) (ks ls : List (Key × V)), x = .ref a ∧ y = .ref b ∧ H a = some (.dK ks) ∧ H b = some (.dK ls) ∧ IntVs ks ∧ IntVs ls ∧ eqDB ks ls = true
theorem mon_dI : Mon DDI := fun x y H H' e ⟨a, b, ks, ls, h1, h2, h3, h4, r⟩ => ⟨a, b, ks, ls, h1, h2, e _ _ h3, e _ _ h4, r⟩
theorem rcG_dI : RcG X 1 DDI := by
  rintro A pins s σ H x y u v sb I rx ry ⟨a, b, ks, ls, rfl, rfl, ea, eb, ia, ib, q⟩
  cases rx
  cases ry
  obtain ⟨_, ya, va, ra, da⟩ := dk_of I.hok ea
  obtain ⟨_, yb, vb, rb, db⟩ := dk_of I.hok eb
  have key := PySem.W.keq_eq (prog := X.prog) (w := X.w) (A := A) (E := X.xe) (Q := fun r s' => r = .bool true ∧ ∃ H', Inv X pins σ H' s' ∧ Ext H H') (knd := mixKind X.prog X.w) ya yb da db sb.room.units0 (fun _ => hits_ints rb ib ra ia)
  refine key ⟨?_, H, I, Ext.rfl'⟩
  unfold eqDB at q
  rw [len_dec, ← ra.length, ← rb.length, q]
theorem eqG_dI : EqG X 1 DDI := rcG_dI.eqG fun _ _ _ d => let ⟨a, b, _, _, hx, hy, _⟩ := d; ⟨a, b, hx, hy⟩
theorem eqDB_same {ks : List (Key × V)} (nd : ∀ p ∈ ks, valV ks p.1 = some p.2) : eqDB ks ks = true := by
  unfold eqDB
  rw [decide_eq_true rfl, Bool.true_and]
  exact List.all_eq_true.mpr fun p hp => decide_eq_true (nd p hp)
end
end Dq

set_option Elab.async false
set_option linter.all false
set_option maxRecDepth 100000
set_option maxHeartbeats 1000000
/-! list(o.values()), a dict with int values -/
namespace L2
open PySem PySem.Spec PyProof.Rows
section
variable {X : Cx}
def tListVals (td : TE) : TE := fun σ H Q => td σ H fun x H1 => ∃ (a : Addr) (kvs : List (Key × V)), x = V.ref a ∧ H1 a = some (.dK kvs) ∧ ∀ p, H1 p = none → Q (.ref p) (upd H1 p (.lst (kvs.map (·.2))))
variable {o : Expr} {p pos apos mpos : Pos} {td : TE}
theorem pe_listVals (hc : X.calm = true) (hg : Gl X "list") (hm : X.mg "list" = none) (hd : PE X o td) (hbase : attributeBase o "values" X.env (eval o X.env) = eval o X.env := by rfl) (hline : (apos.endLine == mpos.line) = true := by rfl)
    (hse : starEach [Expr.Call (.Attribute o "values" apos) [] [] mpos] X.env = [(false, eval (Expr.Call (.Attribute o "values" apos) [] [] mpos) X.env)] := by rfl) :
    PE X (.Call (.Name "list" p) [.Call (.Attribute o "values" apos) [] [] mpos] [] pos) (tListVals td) := by
  refine ⟨fun pins s σ H Q I h => ?_⟩
  refine wpAny_Call_Name_kw (ld_blt I hg hm (u := .type "list") (by first | rfl | decide +kernel) ?_ (by first | decide +kernel | decide) (by first | decide +kernel | decide))
  rw [hse]
  refine PySem.callWith_type1 (wpAny_Call_method0_late hbase hline (thn (hd.run pins s σ H _ I h) fun v s1 ⟨x, H1, I1, r1, a, kvs, ex, ha, q⟩ => ?_))
  subst ex
  obtain rfl : v = Value.ref a := r1
  obtain ⟨z, hsys, vs, rel, dof⟩ := dk_of I1.hok ha
  obtain ⟨ep, dat⟩ := dof.dictAt
  have dat' := dat
  obtain ⟨ob, es, ho, ex, hdat, hko, hpr, hnd⟩ := dat'
  refine ⟨"dict", "dict.values", F.plainAttrs_dict, F.slot_dict_values, F.type_dict_values, ⟨ob, ho, ex.1⟩, fun b e => ?_, Calls.callWith_builtin rfl (PySem.evalArgs_none ?_)⟩
  · cases e
    exact ⟨ob, ho, ex.2.1⟩
  refine call_meetsIn F.slot_dict_values ⟨ob, ho, ex.1⟩ F.entry_dict_values (F.args_dict_values_1 _) (meets_dict_values (mixKind X.prog X.w) a hsys) ⟨⟨vs, dof⟩, ?_⟩
  have k1 : ∀ b u, s1.heap.get? b = some u → (s1.heap.push { cls := .type "dict_values", data := .fields #[.ref a] }).get? b = some u := fun b u e => Heap.get?_push_of_some _ e
  have I2 : Inv X pins σ H1 { s1 with heap := s1.heap.push { cls := .type "dict_values", data := .fields #[.ref a] } } := I1.kept (t' := s1.toks) k1
  have hl : kvs.length = vs.length := rel.length
  refine PySem.W.kdl_call (PySem.W.kdl_values (knd := mixKind X.prog X.w) (kvs := vs) (ep := ep)) (I1.ok.hd hc) ⟨⟨_, Heap.get?_push_size _ rfl, rfl, rfl⟩, dat.keep k1⟩ (by rw [← hl]; exact z) fun h' tk acc c' hk hD hacc => ?_
  have I3 := I2.laid (a := (s1.heap.push { cls := .type "dict_values", data := .fields #[.ref a] }).objs.size) (o := .lst (kvs.map (·.2))) (t' := tk) hk (Nat.le_refl _) ?_
  · exact ⟨.ref _, _, I3, rfl, q _ (I2.hok.fresh (Nat.le_refl _))⟩
  · refine ⟨by rw [List.length_map]; exact z, acc.toList, c', ?_, by rw [Array.toArray_toList]; exact hD⟩
    refine vals_of_at (by
      have e : acc.toList.length = acc.size := Array.length_toList
      rw [List.length_map, e, hacc.1, hl]) fun j x w h1 h2 => ?_
    obtain ⟨k, hi⟩ := hacc.2 j w (by rw [← Array.getElem?_toList]; exact h2)
    obtain ⟨y, h3, h4⟩ := KV.at' rel hi
    rw [List.getElem?_map, h3] at h1
    cases h1
    exact h4
end
end L2

set_option Elab.async false
set_option linter.all false
set_option maxRecDepth 100000
set_option maxHeartbeats 4000000
/-! xs[i] += e, xs a list, i from 0 on: the read -/
namespace Ga
open PySem PySem.Spec PyProof.Rows PySem.W L2
theorem get_list {X : Cx} : PGet X (fun x y H Q => ∃ p xs i v, x = .ref p ∧ y = .int i ∧ 0 ≤ i ∧ SqL X.K H p xs ∧ xs[i.toNat]? = some v ∧ Q v H) := by
  intro pins s σ H o i ov iv Q I ro ri h
  obtain ⟨p, xs, i, z, rfl, rfl, h0, hq, h2, q⟩ := h
  cases ro
  obtain ⟨t, rfl⟩ := ri
  obtain ⟨its, r, pl, hz⟩ := I.list hq
  obtain ⟨w, ew, rw'⟩ := r.get h2
  have hl := r.length
  have hn := line63
  have hlt : i.toNat < xs.length := by
    rcases Nat.lt_or_ge i.toNat xs.length with g | g
    · exact g
    · rw [List.getElem?_eq_none g] at h2; cases h2
  exact wpAny_getItem_list pl.isList h0 (by omega) (by simpa using ew) ⟨z, H, I, rw', q⟩
end Ga
namespace Ga
open PySem PySem.Spec PyProof.Rows PySem.W L2
/-- x *= e, ints, one of them small -/
theorem ip_mul {X : Cx} : PIp X .Mult (fun x y H Q => ∃ i j, x = .int i ∧ y = .int j ∧ CMul i j ∧ Q (.int (i * j)) H) := by
  intro pins s σ H x y v u Q I r1 r2 h
  obtain ⟨i, j, e1, e2, hc, q⟩ := h
  subst e1; subst e2
  obtain ⟨t, rfl⟩ := r1
  obtain ⟨t', rfl⟩ := r2
  exact imul_int ⟨.int _, H, I.tok _, ⟨_, rfl⟩, q⟩ hc.ok
end Ga

set_option Elab.async false
set_option linter.all false
set_option maxRecDepth 100000
set_option maxHeartbeats 2000000
/-! sorted(d), d a dict with whole numbers as keys -/
namespace Sd
open PySem PySem.Spec PyProof.Rows L2
section
variable {prog : Program} {w : World} {A : Around} {E : Value → Shared → Prop} {s : Shared} {T : String} {r d : Addr} {n : Nat} {P : Nat → Value → Prop} {OK : Heap → Prop}
/-- what a source of values gives, gathered -/
theorem gather_src {Q : List Value → Shared → Prop} (K : PySem.W.KdlSrc prog w T r d n P OK) (hh : A.handled = none) (hok : OK s.heap) (hn : n ≤ sizeLine)
    (h : ∀ h' tk (acc : Array Value) c, (∀ b o, s.heap.get? b = some o → h'.get? b = some o) → h'.get? s.heap.objs.size = some { cls := .type "list", dict := none, data := .seq acc c, slots := #[] } → PySem.ItemsOf P acc n → Q acc.toList { s with heap := h', toks := tk }) :
    wpAny (model prog w) A (collect (.ref r)) Q E s := by
  unfold collect
  refine wpAny_bind (wpAny_runValue (codeAny_builtin entry_proto_collect' ?_))
  show wpAny _ _ (do again (.builtin "list.__iadd__" ⟨[← newList [], .ref r], []⟩)) _ _ s
  refine wpAny_bind (wpAny_newList (wpAny_pure ⟨Code.quiet_builtin _ (by decide +kernel), codeAny_builtin entry_list_iadd' ?_⟩))
  show wpAny _ _ (Builtin.List.listExtendWith (.ref s.heap.objs.size) (.ref r) (.ref s.heap.objs.size)) _ _ { s with heap := s.heap.push (seqObj "list" #[] 0) }
  have hlt := K.there _ hok
  have hS : (s.heap.push (seqObj "list" #[] 0)).get? s.heap.objs.size = some { cls := .type "list", data := .seq #[] 0 } := Heap.get?_push_size _ rfl
  have hok2 : OK (s.heap.push (seqObj "list" #[] 0)) := K.keep _ _ hok fun b _ o e => Heap.get?_push_of_some _ e
  rw [Around.under_plainId (id := "list.__iadd__") (by decide +kernel) _]
  refine PySem.W.kdl_extend (R := fun r s' => match r with
    | .ok (.ret v) => wpAny (model prog w) A (match v with
        | .ref a => do
          let o ← load a
          match o.data with
          | .seq xs _ => pure xs.toList
          | _ => unsupported "internal:collect"
        | _ => unsupported "internal:collect") Q E s'
    | .ok _ => False
    | .error e => E e s') (s := { s with heap := s.heap.push (seqObj "list" #[] 0) }) K hh hok2 s.heap.objs.size (Nat.ne_of_gt hlt.1) (Nat.ne_of_gt hlt.2) (.ref s.heap.objs.size) 0 hS (fun h' tk acc c hk hS' hacc => ?_) hn
  refine wpAny_bind (wpAny_load hS' ?_)
  exact wpAny_pure (h h' tk acc c (fun b o e => hk b o (Nat.ne_of_lt (Heap.lt_size e)) (Heap.get?_push_of_some _ e)) hS' hacc)
end
def rSortedD : List V → Hp → VK → Prop := fun vs H Q => ∃ (a : Addr) (kvs : List (Key × V)) (ns : List Int), vs = [V.ref a] ∧ H a = some (.dK kvs) ∧ kvs.map (·.1) = ns.map Sum.inl ∧
  ∀ (ns' : List Int) (p : Addr), ns'.Perm ns → ns'.Pairwise (· ≤ ·) → H p = none → Q (.ref p) (upd H p (.lst (ns'.map V.int)))
theorem cr_sortedD {X : Cx} (hc : X.calm = true) : CallR X (.builtin "sorted") rSortedD := by
  intro pins s σ H vs us Q I r h
  obtain ⟨a, kvs, ns, rfl, ha, hks, q⟩ := h
  rw [Vals.ref1 r]
  obtain ⟨z, lo, vs, rk, hd⟩ := (show ObjOk X.prog X.w H s.heap a (.dK kvs) from I.hok a _ ha)
  obtain ⟨ep, hat⟩ := hd.dictAt
  have hl : kvs.length = vs.length := Paired.length rk
  have hkl : ns.length = kvs.length := by
    have := congrArg List.length hks
    rw [List.length_map, List.length_map] at this
    exact this.symm
  refine Calls.call_function_entry kind_sorted plain_sorted entry_sorted (args_sorted1 _) ?_
  unfold Builtin.«sorted»
  refine wpAny_bind (m := checkCount "sorted" 1 1 _) (wpAny_pure ?_)
  refine wpAny_bind (gather_src (PySem.W.kdl_dict (knd := mixKind X.prog X.w) (kvs := vs) (ep := ep) lo) (by exact I.ok.hd hc) hat (by rw [← hl]; exact z) fun h' tk acc c hk hS hacc => ?_)
  have el : acc.toList.length = acc.size := by simp
  have rv : Vals (ns.map V.int) acc.toList := by
    refine vals_of_at (by rw [List.length_map, el, hacc.1, ← hl, hkl]) fun j x w h1 h2 => ?_
    obtain ⟨k, y, hky, hi⟩ := hacc.2 j w (by rw [← Array.getElem?_toList]; exact h2)
    have e1 : (kvs.map (·.1))[j]? = some k := by
      rw [KV.keys rk, List.getElem?_map, hky] <;> rfl
    rw [hks, List.getElem?_map] at e1
    rw [List.getElem?_map] at h1
    cases e : ns[j]? with
    | none => rw [e] at h1; cases h1
    | some n =>
      rw [e] at h1 e1
      have e1 : Sum.inl n = k := Option.some.inj e1
      have h1 : V.int n = x := Option.some.inj h1
      rw [← h1]
      have := keyIs_rel hi
      rw [← e1] at this
      exact this
  have hi := rv.ints
  have hzi : acc.toList.length ≤ sizeLine := by rw [el, hacc.1, ← hl]; exact z
  have hlt : s.heap.objs.size < h'.objs.size := Heap.lt_size hS
  refine wpAny_bind (wpAny_newList ?_ hzi)
  have hoL : (h'.push (seqObj "list" acc.toList.toArray 0)).get? h'.objs.size = some (seqObj "list" acc.toList.toArray 0) := Heap.get?_push_size _ rfl
  refine wpAny_bind (wpAny_holding (wpAny_call_entry slot_list_sort ⟨_, hoL, rfl⟩ entry_list_sort (SrtO.list_sort_ord SrtO.swo_int hoL hzi (fun h2 => SrtO.ints_sortable hi h2) fun out h1 h2 => ⟨_, rfl, ?_⟩) (args_list_sort _)))
  refine wpAny_pure ⟨_, rfl, ?_⟩
  obtain ⟨k1, k2, k3⟩ := SrtO.ints_out hi h1 h2
  have hlen : ((out.map SrtO.iv).map V.int).length ≤ sizeLine := by
    rw [List.length_map, k2.length_eq, hkl]
    exact z
  obtain ⟨e0, he0⟩ := sortedHeap_at (out := out.toArray) hoL
  refine ⟨.ref _, upd H h'.objs.size (.lst ((out.map SrtO.iv).map V.int)), I.laid (t' := tk) (fun b o e => ?_) (Nat.le_of_lt hlt) ⟨hlen, out, e0, vals_of_ints k1, he0⟩, rfl, q _ _ k2 k3 (I.hok.fresh (Nat.le_of_lt hlt))⟩
  have hb := Heap.lt_size (hk b o e)
  refine (sortedHeap_old (Nat.ne_of_lt hb) (by rw [size_push']; exact Nat.lt_succ_of_lt hb)).trans ?_
  exact Heap.get?_push_of_some _ (hk b o e)
end Sd

set_option Elab.async false
set_option linter.all false
set_option maxRecDepth 100000
set_option maxHeartbeats 2000000
/-! own rule: a dict comprehension of two clauses. One lemma speaks of a clause's turn (turnK), whichever clause it is; into_blk: the block is entered, and left -/
namespace L2.D2
open PySem PySem.Spec PyProof.Rows L2
/-- a clause's turn; k: what comes behind its tests -/
def turnK (at_ : Pos) (tg : Expr) (cs : List Expr) (it : Value) (env : Env) (k : Bool → Sem Fin) : Sem Fin := do
  standAt at_
  match ← pyNext it with
  | none => pure (.done .next)
  | some v =>
    letOwnedTupleGo tg it v
    assign tg env v
    let go ← forIn cs true fun c r => if r = true then do let ok ← isTrue c env (eval c env); pure (ForInStep.yield ok) else pure (ForInStep.yield r)
    k go
section
variable {kx vx ta ia tb ib : Expr} {ca cb : List Expr} {sc : Scope} {pos : Pos}
theorem turn_a (it : Value) (D : Addr) (env : Env) : compTurn (.DictComp kx vx [⟨ta, ia, ca, 0⟩, ⟨tb, ib, cb, 0⟩] sc pos) 0 it (.ref D) env =
    turnK ia.pos ta ca it env fun go => if go = true then (do
        let src ← eval ib env
        standAt ib.pos
        let src ← foldedSetIterable ib env src
        let _ ← runOwn (.compStart (.DictComp kx vx [⟨ta, ia, ca, 0⟩, ⟨tb, ib, cb, 0⟩] sc pos) 1 (← holding [src] (pyIter src)) (.ref D) env) env
        again (.compLoop (.DictComp kx vx [⟨ta, ia, ca, 0⟩, ⟨tb, ib, cb, 0⟩] sc pos) 0 it (.ref D) env))
      else again (.compLoop (.DictComp kx vx [⟨ta, ia, ca, 0⟩, ⟨tb, ib, cb, 0⟩] sc pos) 0 it (.ref D) env) := by rfl
theorem turn_b (it : Value) (D : Addr) (env : Env) : compTurn (.DictComp kx vx [⟨ta, ia, ca, 0⟩, ⟨tb, ib, cb, 0⟩] sc pos) 1 it (.ref D) env =
    turnK ib.pos tb cb it env fun go => if go = true then (do
        (do
          let key ← eval kx env
          let val ← holding [key] (eval vx env)
          standAt { kx.pos with endLine := vx.pos.endLine, endCol := vx.pos.endCol }
          holding [key, val] (dictSet D key val))
        again (.compLoop (.DictComp kx vx [⟨ta, ia, ca, 0⟩, ⟨tb, ib, cb, 0⟩] sc pos) 1 it (.ref D) env))
      else again (.compLoop (.DictComp kx vx [⟨ta, ia, ca, 0⟩, ⟨tb, ib, cb, 0⟩] sc pos) 1 it (.ref D) env) := by rfl
end
section
variable {X : Cx}
/-- a walk stands at turn i, and its own objects are untracked -/
structure Walking (X : Cx) (pins : List (Addr × Obj)) (σ : St) (fp : List Addr) (tn : Nat → Heap → Prop) (i : Nat) (H : Hp) (s : Shared) : Prop where
  inv : Inv X pins σ H s
  st : tn i s.heap
  nil : ∀ b ∈ fp, H b = none
variable {pins : List (Addr × Obj)} {σ : St} {H : Hp} {s : Shared} {J : It} {fp : List Addr} {it : Addr} {tn : Nat → Heap → Prop} {tg : Expr} {cs : List Expr} {g : TG} {tt : TT} {i : Nat}
theorem Walking.weak {σ' : St} (w : Walking X pins σ fp tn i H s) (hl : σ'.length = σ.length) (hw : ∀ (j : Nat) v, σ'[j]? = some (some v) → σ[j]? = some (some v)) : Walking X pins σ' fp tn i H s := ⟨w.inv.weak hl hw, w.st, w.nil⟩
/-- behind a turn's own work, its objects pinned at h -/
theorem back (T : Turn X.prog X.w X.K tg J fp it tn) {h : Heap} (st : tn i h) (I : Inv X (pins ++ pinsAt fp h) σ H s) : Walking X pins σ fp tn i H s := by
  have pin : ∀ b ∈ fp, ∀ o, h.get? b = some o → s.heap.get? b = some o ∧ H b = none := fun b hb o e => by
    have q := I.pin (b, o) (List.mem_append_right _ (List.mem_append_right _ (mem_pinsAt hb e)))
    exact ⟨q.1, q.2.1⟩
  refine ⟨I.unpinned, T.keep _ _ _ st fun b hb o e => (pin b hb o e).1, fun b hb => ?_⟩
  obtain ⟨o, e, _⟩ := T.obj _ _ st b hb
  exact (pin b hb o e).2
/-- a turn that finds no more -/
theorem turn_stop (hc : X.calm = true) (T : Turn X.prog X.w X.K tg J fp it tn) (hf : ∀ H', (∀ b ∈ fp, H' b = none) → ∀ b ∈ fp, FpOk X pins H' b) (wk : Walking X pins σ fp tn i H s) (hs : J.stop i H) {p : Pos} {k : Bool → Sem Fin} {Q : Fin → Shared → Prop} {E : Value → Shared → Prop}
    (hq : ∀ s', Inv X pins σ H s' → Q (.done .next) s') : wpAny (model X.prog X.w) X.A (turnK p tg cs (.ref it) X.env k) Q E s := by
  unfold turnK
  refine wpAny_bind (wpAny_standAt (wpAny_bind (thnF (T.done X rfl rfl rfl hc i pins s σ H (fun _ _ => False) wk.inv (hf H wk.nil) wk.st hs) fun r s' z => ?_)))
  obtain ⟨e, I⟩ := z
  rw [e]
  exact wpAny_pure (hq s' I)
/-- a turn that goes on: what is wanted of k -/
theorem turn_go (hc : X.calm = true) (hx : X.xe = fun _ _ => False) (T : Turn X.prog X.w X.K tg J fp it tn) (pg : PG X tg g) (pt : PTs X cs tt) (hf : ∀ H', (∀ b ∈ fp, H' b = none) → ∀ b ∈ fp, FpOk X pins H' b) (wk : Walking X pins σ fp tn i H s) (go : J.go i H)
    {Pm : St → Prop} {B : St → Bool → Hp → Prop} (step : ∀ x H', J.yld i H x H' → g x σ H' fun σ2 H2 => Pm σ2 ∧ tt σ2 H2 (B σ2)) {p : Pos} {k : Bool → Sem Fin} {Q : Fin → Shared → Prop} {E : Value → Shared → Prop}
    (hk : ∀ (pl : List (Addr × Obj)), (∀ σ' H' s', Inv X (pins ++ pl) σ' H' s' → Walking X pins σ' fp tn (i + 1) H' s') → ∀ b σ2 H3 s3, Inv X (pins ++ pl) σ2 H3 s3 → Pm σ2 → B σ2 b H3 → wpAny (model X.prog X.w) X.A (k b) Q E s3) :
    wpAny (model X.prog X.w) X.A (turnK p tg cs (.ref it) X.env k) Q E s := by
  unfold turnK
  refine wpAny_bind (wpAny_standAt (wpAny_bind (thnF (T.item X rfl rfl rfl hc i pins s σ H (fun _ _ => False) wk.inv (hf H wk.nil) wk.st go) fun r s1 z => ?_)))
  obtain ⟨u, e, z⟩ := z
  rw [e]
  refine wpAny_bind (thnF z fun _ s2 z => ?_)
  obtain ⟨x, H2, I2, rx, y, st2, n2⟩ := z
  have a := pg.run _ s2 σ H2 x u _ (I2.pinned (hf H2 n2) (T.obj _ _ st2)) rx (step x H2 y)
  rw [hx] at a
  refine wpAny_bind (thnF a fun _ s3 z => ?_)
  obtain ⟨σ3, H3, I3, h3, q3⟩ := z
  have b := pt.run _ s3 σ3 H3 _ I3 q3
  rw [hx] at b
  refine wpAny_bind (thnF b fun more s4 z => ?_)
  obtain ⟨H4, I4, q4⟩ := z
  exact hk (pinsAt fp s2.heap) (fun σ' H' s' I' => back T st2 I') more σ3 H4 s4 I4 h3 q4
end
section
variable {X : Cx} {kx vx ta ia tb ib : Expr} {ca cb : List Expr} {sc : Scope} {pos : Pos} {pins : List (Addr × Obj)} {σ : St} {H : Hp} {s : Shared} {J : It} {fp : List Addr} {it D : Addr} {tn : Nat → Heap → Prop} {ga gb : TG} {qa qb : TT} {wb : TI} {tk tv : TE} {va vb : List Nat} {R : Result → Shared → Prop}
/-- what a turn of the second clause is to answer -/
def StepB (gb : TG) (qb : TT) (tk tv : TE) (vb : List Nat) (D : Addr) (J : It) (σ : St) (Nx : Hp → Prop) (W : Nat → Nat → Hp → Prop) : Prop := ∀ j k H, W j k H →
  (J.stop j H ∧ Nx H) ∨ (J.go j H ∧ ∃ Ny : Hp → Prop, (∀ H', Ny H' → ∃ k', k' < k ∧ W (j + 1) k' H') ∧ ∀ x H', J.yld j H x H' → gb x (wipe σ vb) H' fun σ2 H2 => wipe σ2 vb = wipe σ vb ∧ qb σ2 H2 fun b H3 =>
    if b = true then tk σ2 H3 fun y H4 => tv σ2 H4 fun z H5 => ∃ kvs key, y = kV key ∧ H5 D = some (.dK kvs) ∧ kvs.length < sizeLine ∧ Ny (upd H5 D (.dK (putK kvs key z))) else Ny H3)
/-- what a turn of the first clause is to answer -/
def StepA (ga : TG) (qa : TT) (wb : TI) (gb : TG) (qb : TT) (tk tv : TE) (va vb : List Nat) (D : Addr) (J : It) (σ : St) (Nx : Hp → Prop) (W : Nat → Nat → Hp → Prop) : Prop := ∀ i m H, W i m H →
  (J.stop i H ∧ Nx H) ∨ (J.go i H ∧ ∃ Ny : Hp → Prop, (∀ H', Ny H' → ∃ m', m' < m ∧ W (i + 1) m' H') ∧ ∀ x H', J.yld i H x H' → ga x (wipe σ va) H' fun σ2 H2 => wipe σ2 va = wipe σ va ∧ qa σ2 H2 fun b H3 =>
    if b = true then wb σ2 H3 fun Jb H4 => ∃ Wb : Nat → Nat → Hp → Prop, (∃ k, Wb 0 k H4) ∧ StepB gb qb tk tv vb D Jb σ2 Ny Wb else Ny H3)
theorem loop_b (hc : X.calm = true) (hx : X.xe = fun _ _ => False) (T : Turn X.prog X.w X.K tb J fp it tn) (pg : PG X tb gb) (pt : PTs X cb qb) (pk : PE X kx tk) (pv : PE X vx tv) (hf : ∀ H', (∀ b ∈ fp, H' b = none) → ∀ b ∈ fp, FpOk X pins H' b)
    {Nx : Hp → Prop} {W : Nat → Nat → Hp → Prop} (turn : StepB gb qb tk tv vb D J σ Nx W) {m : Nat} (wk : Walking X pins (wipe σ vb) fp tn 0 H s) (w : W 0 m H) (hR : ∀ H' s', Inv X pins (wipe σ vb) H' s' → Nx H' → R (.ok .next) s') :
    codeAny (model X.prog X.w) X.A (.compLoop (.DictComp kx vx [⟨ta, ia, ca, 0⟩, ⟨tb, ib, cb, 0⟩] sc pos) 1 (.ref it) (.ref D) X.env) R s := by
  refine codeAny_loop rfl (fun n s' => ∃ i H', Walking X pins (wipe σ vb) fp tn i H' s' ∧ W i n H') (fun n s' z => ?_) m ⟨0, H, wk, w⟩
  obtain ⟨i, H', wk', w'⟩ := z
  show wpAny _ X.A ((compTurn (.DictComp kx vx [⟨ta, ia, ca, 0⟩, ⟨tb, ib, cb, 0⟩] sc pos) 1 (.ref it) (.ref D) X.env).onRaise (fun x => do noteFrame x X.env; theTreesLotGoes x)) _ _ s'
  refine wpAny_noted ?_
  rw [turn_b]
  rcases turn i n H' w' with ⟨stop, nx⟩ | ⟨go, Ny, hNy, step⟩
  · exact turn_stop hc T hf wk' stop fun s2 I2 => hR H' s2 I2 nx
  · refine turn_go hc hx T pg pt hf wk' go step fun pl bk b σ2 H3 s3 I3 hP q => ?_
    have fin : ∀ H4 s4, Inv X (pins ++ pl) σ2 H4 s4 → Ny H4 → ∃ m', m' < n ∧ ∃ i H, Walking X pins (wipe σ vb) fp tn i H s4 ∧ W i m' H := fun H4 s4 I4 n1 => by
      obtain ⟨m', hm, w2⟩ := hNy H4 n1
      exact ⟨m', hm, i + 1, H4, (bk σ2 H4 s4 I4).weak (by rw [← hP, wipe_length]) (fun j v e => by rw [← hP] at e; exact (wipe_some e).1), w2⟩
    cases b with
    | false => exact wpAny_pure ⟨rfl, fin H3 s3 I3 q⟩
    | true =>
      have a := pk.run _ s3 σ2 H3 _ I3 q
      rw [hx] at a
      refine wpAny_bind (wpAny_bind (thnF a fun key s4 z => ?_))
      obtain ⟨yk, H4, I4, rk, q4⟩ := z
      have a := pv.run _ s4 σ2 H4 _ I4 q4
      rw [hx] at a
      refine wpAny_bind (wpAny_holding (thnF a fun val s5 z => ?_))
      obtain ⟨yv, H5, I5, rv, kvs, k, ek, hD5, hz, n1⟩ := z
      subst ek
      exact wpAny_bind (wpAny_standAt (wpAny_holding (d_dictSet (X := X) I5 hD5 hz rk rv fun s6 I6 => wpAny_pure ⟨rfl, fin _ s6 I6 n1⟩)))
/-- the second clause begins -/
theorem start_b {A : Around} {itv acc : Value} {env : Env} (h0 : codeAny (model X.prog X.w) A (.compLoop (.DictComp kx vx [⟨ta, ia, ca, 0⟩, ⟨tb, ib, cb, 0⟩] sc pos) 1 itv acc env) R s)
    (h1 : ∀ (Q : Value → Shared → Prop) (E : Value → Shared → Prop), Q itv s → wpAny (model X.prog X.w) A (pyIter itv) Q E s) :
    codeAny (model X.prog X.w) A (.compStart (.DictComp kx vx [⟨ta, ia, ca, 0⟩, ⟨tb, ib, cb, 0⟩] sc pos) 1 itv acc env) R s := by
  refine codeAny_of_tree ?_
  show wpAny _ _ ((compStart (.DictComp kx vx [⟨ta, ia, ca, 0⟩, ⟨tb, ib, cb, 0⟩] sc pos) 1 itv acc env).onRaise (fun x => do noteFrame x env; standAt theWindowsPlace)) _ _ s
  refine wpAny_notedAt ?_
  unfold compStart
  show wpAny _ _ (ask >>= _) _ _ s
  refine wpAny_bind (wpAny_askSetting (wpAny_ite ?_))
  split
  · exact wpAny_bind (wpAny_pure (wpAny_pure (And.intro rfl h0)))
  · exact wpAny_bind (wpAny_rule (wpAny_bind (wpAny_standAt (wpAny_bind (h1 _ _ (wpAny_pure (And.intro rfl h0)))))))
theorem loop_a (hc : X.calm = true) (hx : X.xe = fun _ _ => False) (T : Turn X.prog X.w X.K ta J fp it tn) (pg : PG X ta ga) (pt : PTs X ca qa) (pi : PI X tb ib wb) (pg2 : PG X tb gb) (pt2 : PTs X cb qb) (pk : PE X kx tk) (pv : PE X vx tv)
    (hf : ∀ H', (∀ b ∈ fp, H' b = none) → ∀ b ∈ fp, FpOk X pins H' b) (hs : ∀ x, foldedSetIterable ib X.env x = pure x) (hv : ∀ i ∈ vb, i ∈ va)
    {Nx : Hp → Prop} {W : Nat → Nat → Hp → Prop} (turn : StepA ga qa wb gb qb tk tv va vb D J σ Nx W) {m : Nat} (wk : Walking X pins (wipe σ va) fp tn 0 H s) (w : W 0 m H) (hR : ∀ H' s', Inv X pins (wipe σ va) H' s' → Nx H' → R (.ok .next) s') :
    codeAny (model X.prog X.w) X.A (.compLoop (.DictComp kx vx [⟨ta, ia, ca, 0⟩, ⟨tb, ib, cb, 0⟩] sc pos) 0 (.ref it) (.ref D) X.env) R s := by
  refine codeAny_loop rfl (fun n s' => ∃ i H', Walking X pins (wipe σ va) fp tn i H' s' ∧ W i n H') (fun n s' z => ?_) m ⟨0, H, wk, w⟩
  obtain ⟨i, H', wk', w'⟩ := z
  show wpAny _ X.A ((compTurn (.DictComp kx vx [⟨ta, ia, ca, 0⟩, ⟨tb, ib, cb, 0⟩] sc pos) 0 (.ref it) (.ref D) X.env).onRaise (fun x => do noteFrame x X.env; theTreesLotGoes x)) _ _ s'
  refine wpAny_noted ?_
  rw [turn_a]
  rcases turn i n H' w' with ⟨stop, nx⟩ | ⟨go, Ny, hNy, step⟩
  · exact turn_stop hc T hf wk' stop fun s2 I2 => hR H' s2 I2 nx
  · refine turn_go hc hx T pg pt hf wk' go step fun pl bk b σ2 H3 s3 I3 hP q => ?_
    have hlen : (wipe σ va).length = σ2.length := by rw [← hP, wipe_length]
    have fin : ∀ σ' H4 s4, Inv X (pins ++ pl) σ' H4 s4 → σ'.length = σ2.length → (∀ (j : Nat) v, (wipe σ va)[j]? = some (some v) → σ'[j]? = some (some v)) → Ny H4 → ∃ m', m' < n ∧ ∃ i H, Walking X pins (wipe σ va) fp tn i H s4 ∧ W i m' H := fun σ' H4 s4 I4 hl hw n1 => by
      obtain ⟨m', hm, w2⟩ := hNy H4 n1
      exact ⟨m', hm, i + 1, H4, (bk σ' H4 s4 I4).weak (hlen.trans hl.symm) hw, w2⟩
    cases b with
    | false => exact wpAny_pure ⟨rfl, fin σ2 H3 s3 I3 rfl (fun j v e => by rw [← hP] at e; exact (wipe_some e).1) q⟩
    | true =>
      have a := pi.run _ s3 σ2 H3 _ I3 q
      rw [hx] at a
      refine wpAny_bind (thnF a fun src s4 a => ?_)
      refine wpAny_bind (wpAny_standAt (wpAny_bind (wpAny_of_eq (hs src) (wpAny_bind (wpAny_holding (thnF a fun itv s5 z => ?_))))))
      obtain ⟨ib2, fq, tm, Jb, H5, e, I5, Tb, st5, f5, Wb, ⟨mb, wb0⟩, turnb⟩ := z
      subst e
      refine wpAny_bind (wpAny_runOwn ?_)
      rw [Around.mark_none]
      refine start_b (loop_b (σ := σ2) hc hx Tb pg2 pt2 pk pv (fun H6 hn b hb => ⟨hn b hb, (f5 b hb).2⟩) turnb ⟨I5.weak (wipe_length _ _) (fun j v e => (wipe_some e).1), st5, fun b hb => (f5 b hb).1⟩ wb0 fun H6 s6 I6 n6 => ?_) (fun Q E hq => Tb.self X.A 0 s5 Q E st5 hq)
      exact wpAny_pure ⟨rfl, fin _ H6 s6 I6 (wipe_length _ _) (fun j v e => by
        rw [← hP] at e
        obtain ⟨e1, e2⟩ := wipe_some e
        rw [wipe_out fun z => e2 (hv j z)]
        exact e1) n6⟩
/-- {k: v for a in A if .. for b in B if ..} -/
def tDc2 (wa : TI) (ga : TG) (qa : TT) (wb : TI) (gb : TG) (qb : TT) (tk tv : TE) (va vb : List Nat) : TE := fun σ H Q => wa σ H fun J H1 => ∀ D, H1 D = none → ∃ W : Nat → Nat → Hp → Prop, (∃ m, W 0 m (upd H1 D (.dK []))) ∧ StepA ga qa wb gb qb tk tv va vb D J σ (Q (.ref D)) W
/-- a comprehension's block is entered with a new dict, and left -/
theorem into_blk {scope : Scope} {own : List (Str × Nat)} {tg : Expr} (hN : X.N.Nodup) (ok : BlkOk X.N X.env.scope scope own) (I : Inv X pins σ H s) (T : Turn X.prog X.w X.K tg J fp it tn) (st : tn 0 s.heap) (hf : ∀ b ∈ fp, FpOk X pins H b) {Q : Value → Env → Shared → Prop} {E : Value → Shared → Prop}
    (h : ∀ (D C : Addr) (cl : List (Str × Addr)) (s3 s4 : Shared), H D = none → Walking (X.blk s3 (upd H D (.dK [])) scope (compEnvC scope cl C X.env) fp) [] (wipe σ (own.map (·.2))) fp tn 0 (upd H D (.dK [])) s4 →
      (∀ H', (∀ b ∈ fp, H' b = none) → ∀ b ∈ fp, FpOk (X.blk s3 (upd H D (.dK [])) scope (compEnvC scope cl C X.env) fp) [] H' b) →
      (∀ σ' H' s', Inv (X.blk s3 (upd H D (.dK [])) scope (compEnvC scope cl C X.env) fp) [] σ' H' s' → Inv X pins σ H' s' ∧ (∃ m, s'.heap.Ns C m) ∧ FpOk X pins H' C) → Q (.ref D) (compEnvC scope cl C X.env) s4) :
    wpAny (model X.prog X.w) X.A newDict (fun acc s3 => wpAny (model X.prog X.w) X.A (newFunctionEnv scope X.env.globals (cloFrom X.env.cells scope.names []) [] X.env.qual none .none (some X.env)) (fun cenv s4 => Q acc { cenv with scope := relabel scope X.env } s4) E s3) E s := by
  refine wpAny_newObj_type (newEnv_comp ?_)
  have hDn : H s.heap.objs.size = none := I.hok.fresh (Nat.le_refl _)
  have up : ∀ b u, s.heap.get? b = some u → (s.heap.push { cls := .type "dict", data := .dict #[] }).get? b = some u := fun b u e => Heap.get?_push_of_some _ e
  have I3 := I.laid (t' := s.toks) up (Nat.le_refl _) (dk_empty s.heap I.big)
  generalize hs3 : ({ s with heap := s.heap.push { cls := .type "dict", data := .dict #[] }, toks := s.toks } : Shared) = s3 at I3
  have hh : s3.heap = s.heap.push { cls := .type "dict", data := .dict #[] } := by rw [← hs3]
  have f3 : ∀ b ∈ fp, FpOk X pins (upd H s.heap.objs.size (.dK [])) b ∧ b < s3.heap.objs.size := fun b hb => by
    obtain ⟨u, e, _⟩ := T.obj _ _ st b hb
    have lt := Heap.lt_size e
    refine ⟨⟨?_, (hf b hb).2⟩, ?_⟩
    · rw [upd_ne (Nat.ne_of_lt lt)]
      exact (hf b hb).1
    · rw [hh, Heap.size_push]
      exact Nat.lt_succ_of_lt lt
  have I4 := block_start I3 ok hN f3
  have key := h s.heap.objs.size s3.heap.objs.size (cellsFrom (s3.heap.objs.size + 1) scope.names (cloFrom X.env.cells scope.names [])) s3 _ hDn
    ⟨I4, T.keep _ _ _ st fun b _ u e => pushCells_keeps _ _ _ _ (Heap.get?_push_of_some _ (by rw [hh]; exact up b u e)), fun b hb => (f3 b hb).1.1⟩
    (fun H' hn b hb => ⟨hn b hb, (I4.ok.exf b hb).1, I4.ok.exfs b hb, .inl hb, fun x c e => (I4.ok.exf b hb).2 x c e, fun p hp => nomatch hp⟩)
    (fun σ' H' s' I6 => ⟨I3.call' (ch := fp) I6.os I6.base I6.hok I6.bare fun b hb => ⟨(f3 b hb).1.2.2.2.1, (f3 b hb).1.2.1, (f3 b hb).1.2.2.2.2.1, (f3 b hb).1.2.2.2.2.2⟩, let ⟨m, hn, _⟩ := I6.loc; ⟨m, hn⟩, I3.fpOk (Nat.le_refl _) I6.free⟩)
  exact key
theorem pe_dc2 {scope : Scope} {own : List (Str × Nat)} {wa : TI} (hc : X.calm = true) (hN : X.N.Nodup) (hi : PI X ta ia wa) (ok : BlkOk X.N X.env.scope scope own) (hv : ∀ i ∈ vb, i ∈ own.map (·.2))
    (h1 : ∀ (s : Shared) (H : Hp) (C : Addr) (cl : List (Str × Addr)) (fp : List Addr), PG (X.blk s H scope (compEnvC scope cl C X.env) fp) ta ga) (h2 : ∀ (s : Shared) (H : Hp) (C : Addr) (cl : List (Str × Addr)) (fp : List Addr), PTs (X.blk s H scope (compEnvC scope cl C X.env) fp) ca qa)
    (h3 : ∀ (s : Shared) (H : Hp) (C : Addr) (cl : List (Str × Addr)) (fp : List Addr), PI (X.blk s H scope (compEnvC scope cl C X.env) fp) tb ib wb)
    (h4 : ∀ (s : Shared) (H : Hp) (C : Addr) (cl : List (Str × Addr)) (fp : List Addr), PG (X.blk s H scope (compEnvC scope cl C X.env) fp) tb gb) (h5 : ∀ (s : Shared) (H : Hp) (C : Addr) (cl : List (Str × Addr)) (fp : List Addr), PTs (X.blk s H scope (compEnvC scope cl C X.env) fp) cb qb)
    (h6 : ∀ (s : Shared) (H : Hp) (C : Addr) (cl : List (Str × Addr)) (fp : List Addr), PE (X.blk s H scope (compEnvC scope cl C X.env) fp) kx tk) (h7 : ∀ (s : Shared) (H : Hp) (C : Addr) (cl : List (Str × Addr)) (fp : List Addr), PE (X.blk s H scope (compEnvC scope cl C X.env) fp) vx tv)
    (hs : ∀ x, foldedSetIterable ia X.env x = pure x := by intro _; rfl) (hs1 : ∀ env x, foldedSetIterable ib env x = pure x := by intro _ _; rfl) :
    PE X (.DictComp kx vx [⟨ta, ia, ca, 0⟩, ⟨tb, ib, cb, 0⟩] scope pos) (tDc2 wa ga qa wb gb qb tk tv (own.map (·.2)) vb) := by
  refine ⟨fun ps s0 σ0 H0 Q I h => ?_⟩
  rw [arm_eval_DictComp]
  have hfr : ∀ y ∈ scope.names, y.2 = .free → ∃ c, X.env.cells.lookup y.1 = some c := fun y hy e => (ok.free y hy e).elim (fun k => I.ok.has _ (.inl k)) fun k => I.ok.has _ (.inr k)
  refine wpAny_comprehension_free rfl hs (closure_ok hfr) ok.kind (fun y hy e => by rw [ok.uniq y hy, e]) (thn (hi.run ps s0 σ0 H0 _ I h) fun xv s1 z => thn z fun iv s2 z2 => ?_)
  obtain ⟨a, fa, ta', Ja, H2, e, I2, T, st2, f2, q⟩ := z2
  subst e
  refine into_blk (Q := fun acc ce s4 => codeAny (model X.prog X.w) X.A (.compStart (.DictComp kx vx [⟨ta, ia, ca, 0⟩, ⟨tb, ib, cb, 0⟩] scope pos) 0 (.ref a) acc ce) (compPost (model X.prog X.w) X.A X.xe none (EP X ps σ0 Q) acc ce.locals) s4) hN ok I2 T st2 f2 fun D C cl s3 s4 hD wk stat leave => ?_
  obtain ⟨W, ⟨m0, w0⟩, turn⟩ := q D hD
  have loop : codeAny (model X.prog X.w) X.A (.compLoop (.DictComp kx vx [⟨ta, ia, ca, 0⟩, ⟨tb, ib, cb, 0⟩] scope pos) 0 (.ref a) (.ref D) (compEnvC scope cl C X.env)) (compPost (model X.prog X.w) X.A X.xe none (EP X ps σ0 Q) (.ref D) C) s4 :=
    loop_a (X := X.blk s3 (upd H2 D (.dK [])) scope (compEnvC scope cl C X.env) fa) hc rfl T (h1 _ _ _ _ _) (h2 _ _ _ _ _) (h3 _ _ _ _ _) (h4 _ _ _ _ _) (h5 _ _ _ _ _) (h6 _ _ _ _ _) (h7 _ _ _ _ _) stat (hs1 _) hv turn wk w0 fun H' s' I' qd => by
      obtain ⟨I7, ⟨m, hn⟩, f0, f1, f3, f4, f5, f6⟩ := leave _ H' s' I'
      exact ⟨m, hn, fun h' sb => ⟨.ref D, H', I7.turned (t' := s'.toks) (fun b u hb e => (sb.2 b hb).trans e) f0 f1 f4 f5 f6, rfl, qd⟩⟩
  exact codeAny_compStart_dict loop (T.self X.A 0 _ _ _ wk.st loop)
end
section
variable {J : It} {n : Nat} {G : Hp → Prop} {Y : Nat → Hp → V → Hp → Prop} {ga gb : TG} {qa qb : TT} {wb : TI} {tk tv : TE} {va vb : List Nat} {D : Addr} {σ : St}
/-- the first clause's walk, by its turns -/
theorem stepA_it (w : Walk J n G Y) {H0 : Hp} {Nd : Hp → Prop} (Pv : Nat → Hp → Prop) (h0 : Pv 0 H0) (hG : ∀ i H, i ≤ n → Pv i H → G H)
    (hs : ∀ i x H H', i < n → Pv i H → Y i H x H' → ga x (wipe σ va) H' fun σ2 H2 => wipe σ2 va = wipe σ va ∧ qa σ2 H2 fun b H3 =>
      if b = true then wb σ2 H3 fun Jb H4 => ∃ Wb : Nat → Nat → Hp → Prop, (∃ k, Wb 0 k H4) ∧ StepB gb qb tk tv vb D Jb σ2 (Pv (i + 1)) Wb else Pv (i + 1) H3) (hd : ∀ H, Pv n H → Nd H) :
    ∃ W : Nat → Nat → Hp → Prop, (∃ m, W 0 m H0) ∧ StepA ga qa wb gb qb tk tv va vb D J σ Nd W := by
  refine ⟨fun i m H => m = n - i ∧ i ≤ n ∧ Pv i H, ⟨n, rfl, Nat.zero_le _, h0⟩, fun i m H z => ?_⟩
  obtain ⟨rfl, hi, p⟩ := z
  rcases Nat.lt_or_ge i n with hlt | hge
  · exact .inr ⟨w.goes i H hlt (hG i H hi p), Pv (i + 1), fun H' p' => ⟨n - (i + 1), by omega, rfl, hlt, p'⟩, fun x H' y => hs i x H H' hlt p (w.yields i H x H' hlt (hG i H hi p) y)⟩
  · obtain rfl : i = n := Nat.le_antisymm hi hge
    exact .inl ⟨w.stops H (hG i H hi p), hd H p⟩
/-- the second clause's -/
theorem stepB_it (w : Walk J n G Y) {H0 : Hp} {Nx : Hp → Prop} (Pv : Nat → Hp → Prop) (h0 : Pv 0 H0) (hG : ∀ i H, i ≤ n → Pv i H → G H)
    (hs : ∀ i x H H', i < n → Pv i H → Y i H x H' → gb x (wipe σ vb) H' fun σ2 H2 => wipe σ2 vb = wipe σ vb ∧ qb σ2 H2 fun b H3 =>
      if b = true then tk σ2 H3 fun y H4 => tv σ2 H4 fun z H5 => ∃ kvs key, y = kV key ∧ H5 D = some (.dK kvs) ∧ kvs.length < sizeLine ∧ Pv (i + 1) (upd H5 D (.dK (putK kvs key z))) else Pv (i + 1) H3) (hd : ∀ H, Pv n H → Nx H) :
    ∃ W : Nat → Nat → Hp → Prop, (∃ m, W 0 m H0) ∧ StepB gb qb tk tv vb D J σ Nx W := by
  refine ⟨fun i m H => m = n - i ∧ i ≤ n ∧ Pv i H, ⟨n, rfl, Nat.zero_le _, h0⟩, fun i m H z => ?_⟩
  obtain ⟨rfl, hi, p⟩ := z
  rcases Nat.lt_or_ge i n with hlt | hge
  · exact .inr ⟨w.goes i H hlt (hG i H hi p), Pv (i + 1), fun H' p' => ⟨n - (i + 1), by omega, rfl, hlt, p'⟩, fun x H' y => hs i x H H' hlt p (w.yields i H x H' hlt (hG i H hi p) y)⟩
  · obtain rfl : i = n := Nat.le_antisymm hi hge
    exact .inl ⟨w.stops H (hG i H hi p), hd H p⟩
end
end L2.D2

set_option Elab.async false
set_option linter.all false
set_option maxRecDepth 100000
set_option maxHeartbeats 4000000
/-! max of a tuple of ints -/
namespace L2
open PySem PySem.Spec PyProof.Rows PySem.W
section
variable {X : Cx}
theorem fmax_ge : ∀ (l : List Int) (a : Int), a ≤ l.foldl max a ∧ ∀ z ∈ l, z ≤ l.foldl max a
  | [], a => ⟨Int.le_refl _, fun z hz => nomatch hz⟩
  | b :: l, a => by
    obtain ⟨h1, h2⟩ := fmax_ge l (max a b)
    rw [List.foldl_cons]
    refine ⟨by omega, fun z hz => ?_⟩
    rcases List.mem_cons.mp hz with rfl | hz
    · omega
    · exact h2 z hz
def rMaxTu (K : PySem.W.Frag) : List V → Hp → VK → Prop := fun vs H Q => ∃ (a : Addr) (ns : List Int), vs = [V.ref a] ∧ SqT K H a (ns.map V.int) ∧ ns ≠ [] ∧ ∀ m : Int, m ∈ ns → (∀ z ∈ ns, z ≤ m) → Q (.int m) H
theorem cr_maxTu (hh : X.A.handled = none) (hu : X.A.units + 65 < cLine) : CallR X (.builtin "max") (rMaxTu X.K) := by
  intro pins s σ H vs us Q I r h
  obtain ⟨a, ns, rfl, hs, hne, q⟩ := h
  obtain ⟨its, rv, tc, hz⟩ := I.tuple hs
  rw [Vals.ref1 r]
  obtain ⟨n, l, rfl⟩ := List.exists_cons_of_ne_nil hne
  obtain ⟨as, ra⟩ := readsAll_ints (h := s.heap) rv
  have al : ∀ x ∈ PyData.int n :: l.map PyData.int, ∃ b, x = .int b := fun x hx => by
    rw [← List.map_cons] at hx
    obtain ⟨b, _, e⟩ := List.mem_map.mp hx
    exact ⟨b, e.symm⟩
  refine max_tuple_data (x := .int n) (xs := l.map PyData.int) hh tc (by simpa using ra) ⟨fun x hx y hy => ?_, fun x hx z => ?_⟩ ?_ fun i v h' tk cs hv hr kp => ?_
  · obtain ⟨b1, rfl⟩ := al x hx
    obtain ⟨b2, rfl⟩ := al y hy
    simp [alike]
  · obtain ⟨b1, rfl⟩ := al x hx
    cases z
  · have := depth_ints0 (n :: l)
    rw [List.map_cons] at this
    omega
  · have hv2 : its[i]? = some v := by simpa using hv
    have hi : i < (n :: l).length := by
      have hl := rv.length
      rw [List.length_map] at hl
      rw [hl]
      exact (List.getElem?_eq_some_iff.mp hv2).1
    obtain ⟨z, ez, rz⟩ := rv.get (i := i) (x := V.int (n :: l)[i]) (by rw [List.getElem?_map, List.getElem?_eq_getElem hi]; rfl)
    obtain rfl : v = z := Option.some.inj (hv2.symm.trans ez)
    obtain ⟨t, rfl⟩ := rz
    rw [maxD_ints] at hr
    obtain ⟨h1, h2⟩ := fmax_ge l n
    have e : (n :: l)[i] = l.foldl max n := reads_int1 hr
    exact ⟨.int _, H, I.kept kp, ⟨t, rfl⟩, q _ (List.getElem_mem hi) fun z hz => by
      rw [e]
      rcases List.mem_cons.mp hz with rfl | hz
      · exact h1
      · exact h2 z hz⟩
end
end L2

set_option Elab.async false
set_option linter.all false
set_option maxRecDepth 100000
set_option maxHeartbeats 2000000
/-! rules whose reading names K (not X.K), for use in a comprehension's own block; blkOk_in: a comprehension in a comprehension -/
namespace L2
open PySem PySem.Spec PyProof.Rows Tw
section
variable {X : Cx} {K : PySem.W.Frag} {tg : Expr}
theorem pi_listK {l : Expr} {tl : TE} (hK : X.K = K) (hl : PE X l tl) : PI X tg l (iList K tl) := by
  subst hK
  exact pi_list hl
theorem pi_tupK {l : Expr} {tl : TE} (hK : X.K = K) (hl : PE X l tl) : PI X tg l (iTup K tl) := by
  subst hK
  exact pi_tup hl
theorem pi_enSK {e : Expr} {ta : TA} {p pos tpos : Pos} {elts : List Expr} {kk : Nat} (hK : X.K = K) (hg : Gl X "enumerate") (hm : X.mg "enumerate" = Option.none) (ha : PA X [e] ta) (hs : starEach [e] X.env = [(false, eval e X.env)] := by rfl) :
    PI X (.Tuple elts kk tpos) (.Call (.Name "enumerate" p) [e] [] pos) (iEnS K ta) := by
  subst hK
  exact pi_enS hg hm ha hs
theorem pi_zipAK {e e2 : Expr} {ta : TA} {p pos tpos : Pos} {elts : List Expr} {kk : Nat} (hK : X.K = K) (hg : Gl X "zip") (hm : X.mg "zip" = none) (ha : PA X [e, e2] ta)
    (hs : starEach [e, e2] X.env = (false, eval e X.env) :: starEach [e2] X.env := by rfl) (hpl : (backTo pos (starEach [e2] X.env)).any (·.1) = false := by rfl) :
    PI X (.Tuple elts kk tpos) (.Call (.Name "zip" p) [e, e2] [] pos) (RZ.iZipA K ta) := by
  subst hK
  exact RZ.pi_zipA hg hm ha hs hpl
theorem pe_fldK {e : Expr} {f : Str} {pos : Pos} {ta : TE} (hK : X.K = K) (he : PE X e ta) (hb : attributeBase e f X.env (eval e X.env) = eval e X.env) : PE X (.Attribute e f pos) (tFld K ta f) := by
  subst hK
  exact pe_fld he hb
theorem pe_orK {a b : Expr} {rest : List Expr} {pos : Pos} {ta tb : TE} (hK : X.K = K) (ha : PE X a ta) (hb : PE X (.BoolOp .Or (b :: rest) pos) tb) : PE X (.BoolOp .Or (a :: b :: rest) pos) (tOrT K ta tb) := by
  subst hK
  exact pe_orT ha hb
theorem pe_andK {a b : Expr} {rest : List Expr} {pos : Pos} {ta tb : TE} (hK : X.K = K) (ha : PE X a ta) (hb : PE X (.BoolOp .And (b :: rest) pos) tb) : PE X (.BoolOp .And (a :: b :: rest) pos) (tAndT K ta tb) := by
  subst hK
  exact pe_andT ha hb
theorem pe_notK {a : Expr} {pos : Pos} {ta : TE} (hK : X.K = K) (ha : PE X a ta) : PE X (.UnaryOp .Not a pos) (tNotT K ta) := by
  subst hK
  exact pe_notT ha
def rDictP (K : PySem.W.Frag) : List V → Hp → VK → Prop := fun xs H Q => ∃ (a : Addr) (ps : List Addr) (kvs : List (Key × V)), xs = [.ref a] ∧ SqL K H a (ps.map V.ref) ∧ Paired (fun p kv => SqT K H p [kV kv.1, kv.2]) ps kvs ∧ ∀ p, H p = none → Q (.ref p) (upd H p (.dK (mergeK [] kvs)))
theorem call_dictPK (hc : X.calm = true) : CallR X (.type "dict") (rDictP X.K) := call_dictP hc
theorem blkOk_in {N : List Str} {s : Shared} {H : Hp} {C : Addr} {cl : List (Str × Addr)} {fp : List Addr} {sc0 sc1 scope : Scope} {own : List (Str × Nat)} (hN : X.N = N) (h0 : X.env.scope = sc0) (h : blkC N (relS sc1 sc0) scope own = true) :
    BlkOk (X.blk s H sc1 (compEnvC sc1 cl C X.env) fp).N (X.blk s H sc1 (compEnvC sc1 cl C X.env) fp).env.scope scope own := by
  subst hN
  subst h0
  exact blkOk_by h
end
end L2

set_option Elab.async false
set_option linter.all false
set_option maxRecDepth 100000
set_option maxHeartbeats 2000000
/-! == and != of an own class where the other operand is an instance of another own class -/
namespace Tw
open PySem PySem.Spec PyProof.Rows L2
open PySem.W (InstAt looks_findIn looks_subIn ifBound_K cmp_K)
theorem nf_kit {K : PySem.W.Frag} {C : Addr} {t : Value} (h : PySem.W.kitOne K t (.ref C) = some false) : PySem.W.notFirst K C t = true := by
  unfold PySem.W.kitOne at h
  split at h
  · cases h
  · unfold PySem.W.kitCls at h
    simp only at h
    split at h
    · unfold PySem.W.notFirst
      rw [h]
      simp
    · cases h
section
variable {X : Cx} {CX : CXT} {K : PySem.W.Frag} {k : Nat} {f C : Addr} {fd : FuncData} {ps : List Str} {sp : Sp} {E : XK}
def rEqX (K : PySem.W.Frag) (C : Addr) (sp : Sp) (E : XK) (neg : Bool) : R2 := fun x y H Q =>
  ∃ a dx fs b D dy gs, x = .ref a ∧ H a = some (.ins C dx fs) ∧ y = .ref b ∧ H b = some (.ins D dy gs) ∧ PySem.W.kitOne K (.ref D) (.ref C) = some false ∧ sp [.ref a, y] H (fun v H' => ∃ r, v = .bl r ∧ Q (.bl (if neg then !r else r)) H') E
theorem op_eq_ownX (hK : X.K = K) (c : EqC X.K C f) (F : FnOk X.prog X.w X.K X.mg X.base CX k f fd ps sp) (hr : Room k X.A) (hb : Binds X.K fd ps []) (hx : Passes CX X E) : OpR X (compareOp .Eq) (rEqX K C sp E false) := by
  subst hK
  intro pins s σ H x y v u Q I rx ry ⟨a, dx, fs, b, D, dy, gs, ex, ha, ey, hb', kt, q⟩
  subst ex
  subst ey
  obtain rfl : v = Value.ref a := rx
  obtain rfl : u = Value.ref b := ry
  obtain ⟨mA, O, rr, _, _, _⟩ := ins_get I.hok ha
  obtain ⟨od, J, hl⟩ := O.look
  obtain ⟨mB, O2, rr2, _, _, _⟩ := ins_get I.hok hb'
  obtain ⟨od2, J2, hl2⟩ := O2.look
  obtain ⟨m0, hF⟩ := I.fr
  show wpAny _ _ (richCompare .Eq (.ref a) (.ref b)) _ _ _
  refine cmp_K hr.units0 hF I.ok.mod.kin J J2.type (nf_kit kt) c.eq c.fn (thn (run_sub F ⟨hr, rfl⟩ hb hx I (.cons (relR a) (.cons (relR b) .nil)) q) fun r s' ⟨z, H', I', rz, b, ez, q'⟩ => ?_)
  subst ez
  obtain rfl : r = Value.bool b := rz
  exact ⟨_, H', I', relB b, q'⟩
theorem op_ne_ownX (hK : X.K = K) (c : EqC X.K C f) (F : FnOk X.prog X.w X.K X.mg X.base CX k f fd ps sp) (hr : Room (k + 1) X.A) (hb : Binds X.K fd ps []) (hx : Passes CX X E) : OpR X (compareOp .NotEq) (rEqX K C sp E true) := by
  subst hK
  intro pins s σ H x y v u Q I rx ry ⟨a, dx, fs, b, D, dy, gs, ex, ha, ey, hb', kt, q⟩
  subst ex
  subst ey
  obtain rfl : v = Value.ref a := rx
  obtain rfl : u = Value.ref b := ry
  obtain ⟨mA, O, rr, _, _, _⟩ := ins_get I.hok ha
  obtain ⟨od, J, hl⟩ := O.look
  obtain ⟨mB, O2, rr2, _, _, _⟩ := ins_get I.hok hb'
  obtain ⟨od2, J2, hl2⟩ := O2.look
  obtain ⟨m0, hF⟩ := I.fr
  show wpAny _ _ (richCompare .NotEq (.ref a) (.ref b)) _ _ _
  refine ne_K (Room.units0 hr.in1) hr.units0 hF I.ok.mod.kin J J2.type (nf_kit kt) c (thn (run_sub F (Sub.in1 ⟨hr, rfl⟩) hb hx I (.cons (relR a) (.cons (relR b) .nil)) q) fun r s' ⟨z, H', I', rz, b, ez, q'⟩ => ?_)
  subst ez
  exact ⟨b, rz, _, H', I', relB (!b), q'⟩
end
end Tw

set_option Elab.async false
set_option linter.all false
set_option maxRecDepth 100000
set_option maxHeartbeats 2000000
/-! own: the end's facts by addresses that are functions of the heap's part; one Bool for all of them -/
namespace Sh
open PySem PySem.Spec PyProof.Rows L2
section
variable {Kf : PySem.W.Frag}
/-- where things stand -/
def gA (Kf : PySem.W.Frag) (n : Str) : Addr := (match PySem.W.nsIn Kf mainGlobals n with | some (some (.ref z)) => z | _ => 0)
def mA (Kf : PySem.W.Frag) (cl : Addr) (n : Str) : Addr := (match PySem.W.findIn Kf (.ref cl) n with | some (some (.ref z)) => z | _ => 0)
def recA (Kf : PySem.W.Frag) (p : Addr) (n : String) : Addr := (match PySem.W.recIn Kf p n with | some (.ref z :: _) => z | _ => 0)
def recT (Kf : PySem.W.Frag) (p : Addr) (n : String) : List Value := (match PySem.W.recIn Kf p n with | some (_ :: r) => r | _ => [])
def clsA (Kf : PySem.W.Frag) (cl : Addr) (n : Str) : Addr := (match PySem.W.findCls Kf (.ref cl) (.type "type") n with | some (.get _ (.ref z) _ _) => z | _ => 0)
def tokI (Kf : PySem.W.Frag) (o : Addr) (n : Str) : Tok := (match PySem.W.nsIn Kf o n with | some (some (.int _ t)) => t | _ => default)
def tokS (Kf : PySem.W.Frag) (o : Addr) (n : Str) : Tok := (match PySem.W.nsIn Kf o n with | some (some (.str _ t)) => t | _ => default)
def fdA (Kf : PySem.W.Frag) (p : Addr) : Option FuncData := (match Kf.lookup p with | some z => (match z.data with | .func y => some y | _ => none) | none => none)
def kwA (Kf : PySem.W.Frag) (p : Addr) : Addr := (match fdA Kf p with | some y => (match y.kwdefaults with | .ref z => z | _ => 0) | none => 0)
def cdA (Kf : PySem.W.Frag) (p : Addr) : Addr := (match fdA Kf p with | some y => (match y.code with | .ref z => z | _ => 0) | none => 0)
def refB : Value → Bool
  | .ref _ => true
  | _ => false
def noB : Value → Bool
  | .none => true
  | _ => false
end
/-- one function: where it stands, what it is -/
structure FnA where
  pl : PySem.W.Frag → Addr
  nm : Str
  qn : Str
  pr : Arguments
  bd : List Stmt
  sc : Scope
abbrev FV : Type := Option (Str × Str × Arguments × FuncBody × Scope × Addr × List (Str × Addr) × Addr)
def fnV (Kf : PySem.W.Frag) (p : Addr) : FV := (match fdA Kf p with
  | some y => some (y.name, y.qualname, y.params, y.body, y.scope, y.globals, y.closure, y.builtins)
  | none => none)
def FnA.val (d : FnA) : FV := some (d.nm, d.qn, d.pr, FuncBody.stmts d.bd, d.sc, mainGlobals, [], builtinsNs)
/-- kw: its own table of keyword defaults; cd: its code object is named -/
def fnB (Kf : PySem.W.Frag) (p : Addr) (q : Str) (kw : Bool) : Bool := PySem.W.keepIn Kf (.ref p) && (match fdA Kf p with
  | some y => PySem.W.codeIn Kf y.code q && (noB y.defaults && (!kw || refB y.kwdefaults))
  | none => false)
theorem fdA_some {Kf : PySem.W.Frag} {p : Addr} {y : FuncData} (h : fdA Kf p = some y) : ∃ oc od sl, Kf.lookup p = some ⟨oc, od, .func y, sl⟩ := by
  unfold fdA at h
  cases e : Kf.lookup p with
  | none => rw [e] at h; cases h
  | some z =>
    obtain ⟨oc, od, dt, sl⟩ := z
    rw [e] at h
    cases dt with
    | func u =>
      have k : u = y := Option.some.inj h
      exact ⟨oc, od, sl, by rw [k]⟩
    | _ => cases h
theorem fn_any {Kf : PySem.W.Frag} {d : FnA} {p : Addr} {kw : Bool} (e : fnV Kf p = d.val) (c : fnB Kf p d.qn kw = true) :
    PySem.W.keepIn Kf (.ref p) = true ∧ ∃ (y : FuncData) (kV dc pm : Value) (an : Option Addr) (cd ct : Value), fdA Kf p = some y ∧ y = PySem.W.fnOf d.nm d.qn d.pr d.bd d.sc .none kV dc pm an cd ct ∧ PySem.W.codeIn Kf cd d.qn = true ∧ (kw = true → refB kV = true) := by
  obtain ⟨c1, c2⟩ := Bool.and_eq_true_iff.mp c
  refine ⟨c1, ?_⟩
  unfold fnV FnA.val at e
  cases q : fdA Kf p with
  | none => rw [q] at e; cases e
  | some y =>
    rw [q] at e c2
    obtain ⟨x1, x2, x3, x4, x5, x6, x7, x8, x9, x10, x11, x12, x13, x14, x15⟩ := y
    obtain ⟨c3, c4⟩ := Bool.and_eq_true_iff.mp c2
    obtain ⟨c5, c6⟩ := Bool.and_eq_true_iff.mp c4
    have e2 := Option.some.inj e
    simp only [Prod.mk.injEq] at e2
    obtain ⟨r1, r2, r3, r4, r5, r6, r7, r8⟩ := e2
    subst r1 r2 r3 r4 r5 r6 r7 r8
    have n8 : x8 = Value.none := by
      have c5 : noB x8 = true := c5
      cases x8 <;> first | rfl | cases c5
    subst n8
    refine ⟨_, x9, x10, x11, x12, x13, x14, rfl, rfl, c3, fun hk => ?_⟩
    rw [hk] at c6
    exact c6
theorem ref_of {v : Value} (h : refB v = true) : ∃ z, v = .ref z := by
  cases v with
  | ref z => exact ⟨z, rfl⟩
  | _ => cases h
theorem cd_ref {Kf : PySem.W.Frag} {v : Value} {q : Str} (h : PySem.W.codeIn Kf v q = true) : ∃ z, v = .ref z := He.codeIn_ref h
/-- what a function's two rows give: nothing named; its table named; its code object named -/
theorem fn_g {Kf : PySem.W.Frag} {d : FnA} {p : Addr} (e : fnV Kf p = d.val) (c : fnB Kf p d.qn false = true) :
    ∃ (oc : Value) (od : Option Addr) (sl : Array (Option Value)) (kV dc pm : Value) (an : Option Addr) (cd ct : Value), Kf.lookup p = some ⟨oc, od, .func (PySem.W.fnOf d.nm d.qn d.pr d.bd d.sc .none kV dc pm an cd ct), sl⟩ ∧ PySem.W.codeIn Kf cd d.qn = true ∧ PySem.W.keepIn Kf (.ref p) = true := by
  obtain ⟨kp, y, kV, dc, pm, an, cd, ct, hy, rfl, hc, _⟩ := fn_any e c
  obtain ⟨oc, od, sl, hl⟩ := fdA_some hy
  exact ⟨oc, od, sl, kV, dc, pm, an, cd, ct, hl, hc, kp⟩
theorem fn_k {Kf : PySem.W.Frag} {d : FnA} {p : Addr} (e : fnV Kf p = d.val) (c : fnB Kf p d.qn true = true) :
    ∃ (oc : Value) (od : Option Addr) (sl : Array (Option Value)) (dc pm : Value) (an : Option Addr) (cd ct : Value), Kf.lookup p = some ⟨oc, od, .func (PySem.W.fnOf d.nm d.qn d.pr d.bd d.sc .none (.ref (kwA Kf p)) dc pm an cd ct), sl⟩ ∧ PySem.W.codeIn Kf cd d.qn = true ∧ PySem.W.keepIn Kf (.ref p) = true := by
  obtain ⟨kp, y, kV, dc, pm, an, cd, ct, hy, rfl, hc, hk⟩ := fn_any e c
  obtain ⟨z, rfl⟩ := ref_of (hk rfl)
  obtain ⟨oc, od, sl, hl⟩ := fdA_some hy
  have ez : kwA Kf p = z := by unfold kwA; rw [hy]
  rw [ez]
  exact ⟨oc, od, sl, dc, pm, an, cd, ct, hl, hc, kp⟩
theorem fn_c {Kf : PySem.W.Frag} {d : FnA} {p : Addr} (e : fnV Kf p = d.val) (c : fnB Kf p d.qn false = true) :
    ∃ (oc : Value) (od : Option Addr) (sl : Array (Option Value)) (kV dc pm : Value) (an : Option Addr) (ct : Value), Kf.lookup p = some ⟨oc, od, .func (PySem.W.fnOf d.nm d.qn d.pr d.bd d.sc .none kV dc pm an (.ref (cdA Kf p)) ct), sl⟩ ∧ PySem.W.codeIn Kf (.ref (cdA Kf p)) d.qn = true ∧ PySem.W.keepIn Kf (.ref p) = true := by
  obtain ⟨kp, y, kV, dc, pm, an, cd, ct, hy, rfl, hc, _⟩ := fn_any e c
  obtain ⟨z, rfl⟩ := cd_ref hc
  obtain ⟨oc, od, sl, hl⟩ := fdA_some hy
  have ez : cdA Kf p = z := by unfold cdA; rw [hy]
  rw [ez]
  exact ⟨oc, od, sl, kV, dc, pm, an, ct, hl, hc, kp⟩
theorem fn_kc {Kf : PySem.W.Frag} {d : FnA} {p : Addr} (e : fnV Kf p = d.val) (c : fnB Kf p d.qn true = true) :
    ∃ (oc : Value) (od : Option Addr) (sl : Array (Option Value)) (dc pm : Value) (an : Option Addr) (ct : Value), Kf.lookup p = some ⟨oc, od, .func (PySem.W.fnOf d.nm d.qn d.pr d.bd d.sc .none (.ref (kwA Kf p)) dc pm an (.ref (cdA Kf p)) ct), sl⟩ ∧ PySem.W.codeIn Kf (.ref (cdA Kf p)) d.qn = true ∧ PySem.W.keepIn Kf (.ref p) = true := by
  obtain ⟨kp, y, kV, dc, pm, an, cd, ct, hy, rfl, hc, hk⟩ := fn_any e c
  obtain ⟨z, rfl⟩ := ref_of (hk rfl)
  obtain ⟨u, rfl⟩ := cd_ref hc
  obtain ⟨oc, od, sl, hl⟩ := fdA_some hy
  have ez : kwA Kf p = z := by unfold kwA; rw [hy]
  have eu : cdA Kf p = u := by unfold cdA; rw [hy]
  rw [ez, eu]
  exact ⟨oc, od, sl, dc, pm, an, ct, hl, hc, kp⟩
/-- a class's own maker -/
def ofB (Kf : PySem.W.Frag) (cl p : Addr) (n : Str) : Bool := (match PySem.W.findCls Kf (.ref cl) (.type "type") n with | some (.get (.builtin x) (.ref y) .none (.ref z)) => decide (x = "classmethod.__get__") && (decide (y = p) && decide (z = cl)) | _ => false)
theorem ofB_ok {Kf : PySem.W.Frag} {cl p : Addr} {n : Str} (h : ofB Kf cl p n = true) : PySem.W.findCls Kf (.ref cl) (.type "type") n = some (.get (.builtin "classmethod.__get__") (.ref p) .none (.ref cl)) := by
  unfold ofB at h
  split at h
  · rename_i x y z e
    obtain ⟨h1, h2⟩ := Bool.and_eq_true_iff.mp h
    obtain ⟨h3, h4⟩ := Bool.and_eq_true_iff.mp h2
    rw [e, of_decide_eq_true h1, of_decide_eq_true h3, of_decide_eq_true h4]
  · cases h
/-! ### the hook -/
def tabB (g : Addr → Option Obj) (Kf : PySem.W.Frag) (p : Addr × Addr) : Bool := PySem.W.codeHdIn Kf p.1 p.2 && (match g p.2 with | some z => He.emptyTab z | none => false)
abbrev AlA : Type := List FV × Bool
section
variable (as : List Addr) (fs : List FnA) (ex : PySem.W.Frag → Bool) (tf : PySem.W.Frag → List (Addr × Addr))
def obA (Kf : PySem.W.Frag) (g : Addr → Option Obj) : AlA := (fs.map fun d => fnV Kf (d.pl Kf), ex Kf && (tf Kf).all (tabB g Kf))
def obG (g : Addr → Option Obj) : AlA := obA fs ex tf (He.frT g as) g
structure Tells (h : Heap) (Kf : PySem.W.Frag) : Prop where
  fn : ∀ d ∈ fs, fnV Kf (d.pl Kf) = d.val
  ex : ex Kf = true
  hd : ∀ p ∈ tf Kf, PySem.W.codeHdIn Kf p.1 p.2 = true
  out : ∀ p ∈ tf Kf, Kf.lookup p.2 = none
  em : ∀ p ∈ tf Kf, h.get? p.2 = some (PySem.W.tabObj #[])
variable {as fs ex tf}
theorem map_all {α β : Type} {f g : α → β} : ∀ {l : List α}, l.map f = l.map g → ∀ x ∈ l, f x = g x
  | [], _, _, hx => absurd hx List.not_mem_nil
  | a :: r, h, x, hx => by
    rw [List.map_cons, List.map_cons] at h
    injection h with h1 h2
    rcases List.mem_cons.mp hx with rfl | hx
    · exact h1
    · exact map_all h2 x hx
theorem tells_of {h : Heap} (e : obG as fs ex tf h.get? = (fs.map FnA.val, true)) : Tells fs ex tf h (He.frT h.get? as) := by
  have e1 := congrArg Prod.fst e
  have e2 := congrArg Prod.snd e
  obtain ⟨b1, b2⟩ := Bool.and_eq_true_iff.mp (show (ex (He.frT h.get? as) && (tf (He.frT h.get? as)).all (tabB h.get? (He.frT h.get? as))) = true from e2)
  have key : ∀ p ∈ tf (He.frT h.get? as), PySem.W.codeHdIn (He.frT h.get? as) p.1 p.2 = true ∧ ∃ z, h.get? p.2 = some z ∧ He.emptyTab z = true := fun p hp => by
    obtain ⟨b3, b4⟩ := Bool.and_eq_true_iff.mp (List.all_eq_true.mp b2 p hp)
    refine ⟨b3, ?_⟩
    cases q : h.get? p.2 with
    | none => rw [q] at b4; cases b4
    | some z => rw [q] at b4; exact ⟨z, rfl, b4⟩
  refine ⟨map_all e1, b1, fun p hp => (key p hp).1, fun p hp => ?_, fun p hp => ?_⟩
  · obtain ⟨_, z, hz, k⟩ := key p hp
    exact He.frT_none hz k
  · obtain ⟨_, z, hz, k⟩ := key p hp
    rw [hz, He.emptyTab_eq k]
variable (as fs ex tf)
def hook : PySem.W.Hook where
  α := AlA
  obs := fun s => obG as fs ex tf s.heap.get?
  val := fun _ => (fs.map FnA.val, true)
  says := fun _ h => ∃ Kf : PySem.W.Frag, Kf.In h ∧ Tells fs ex tf h Kf
  of := fun _ _ e => ⟨_, He.frT_in, tells_of e⟩
  keeps := fun _ _ _ ⟨Kf, i, t⟩ k => ⟨Kf, PySem.W.Frag.In.keeps i k, ⟨t.fn, t.ex, t.hd, t.out, fun p hp => k _ _ (t.em p hp)⟩⟩
def obT (s : PySem.W.SharedT) : AlA := obG as fs ex tf (HandSHeadRun.getT s)
theorem obT_eq (s : PySem.W.SharedT) : obT as fs ex tf s = (hook as fs ex tf).obs s.abs := by
  have e : HandSHeadRun.getT s = s.abs.heap.get? := funext (HandSHeadRun.getT_eq s)
  show obG as fs ex tf (HandSHeadRun.getT s) = obG as fs ex tf s.abs.heap.get?
  rw [e]
end
theorem at_ {α : Type} {l : List α} {d : α} (i : Nat) (h : l[i]? = some d) : d ∈ l := List.mem_of_getElem? h
theorem band {a b : Bool} (h : (a && b) = true) : a = true ∧ b = true := Bool.and_eq_true_iff.mp h
end Sh

set_option Elab.async false
set_option linter.all false
set_option maxRecDepth 100000
set_option maxHeartbeats 2000000
namespace Tw
open PySem PySem.Spec PyProof.Rows L2
def topS (i : Nat) : Stmt := PySem.Challenge.pw_heaprows_k68_whole_settled.main.body.getD i (.Pass ⟨0, 0, 0, 0⟩)
abbrev s_is_integer : Stmt := topS 14
theorem sc_is_integer : FnScope ["thing"] ["thing"] (defScope s_is_integer) := ⟨rfl, rfl, rfl, by decide +kernel, rfl, by decide +kernel, by decide +kernel⟩
abbrev s_is_integer_from : Stmt := topS 15
theorem sc_is_integer_from : FnScope ["thing", "least", "greatest"] ["thing", "least", "greatest"] (defScope s_is_integer_from) := ⟨rfl, rfl, rfl, by decide +kernel, rfl, by decide +kernel, by decide +kernel⟩
abbrev s_is_key : Stmt := topS 16
theorem sc_is_key : FnScope ["thing"] ["thing"] (defScope s_is_key) := ⟨rfl, rfl, rfl, by decide +kernel, rfl, by decide +kernel, by decide +kernel⟩
abbrev s_check_arms : Stmt := topS 17
theorem sc_check_arms : FnScope ["arms"] ["arms"] (defScope s_check_arms) := ⟨rfl, rfl, rfl, by decide +kernel, rfl, by decide +kernel, by decide +kernel⟩
abbrev s_check_many : Stmt := topS 18
theorem sc_check_many : FnScope ["many"] ["many"] (defScope s_check_many) := ⟨rfl, rfl, rfl, by decide +kernel, rfl, by decide +kernel, by decide +kernel⟩
abbrev s_check_place : Stmt := topS 19
theorem sc_check_place : FnScope ["place", "many"] ["place", "many"] (defScope s_check_place) := ⟨rfl, rfl, rfl, by decide +kernel, rfl, by decide +kernel, by decide +kernel⟩
abbrev s_row_of : Stmt := topS 20
theorem sc_row_of : FnScope ["row", "index", "key"] ["row"] (defScope s_row_of) := ⟨rfl, rfl, rfl, by decide +kernel, rfl, by decide +kernel, by decide +kernel⟩
abbrev s_is_set_of_places : Stmt := topS 21
theorem sc_is_set_of_places : FnScope ["thing", "many", "item"] ["thing", "many"] (defScope s_is_set_of_places) := ⟨rfl, rfl, rfl, by decide +kernel, rfl, by decide +kernel, by decide +kernel⟩
abbrev s_t___init__ : Stmt := inClass (topS 23) 0
theorem sc_t___init__ : FnScope ["self", "many", "arms"] ["self", "many", "arms"] (defScope s_t___init__) := ⟨rfl, rfl, rfl, by decide +kernel, rfl, by decide +kernel, by decide +kernel⟩
abbrev s_t_of : Stmt := inClass (topS 23) 1
theorem sc_t_of : FnScope ["cls", "row", "arms"] ["cls", "row", "arms"] (defScope s_t_of) := ⟨rfl, rfl, rfl, by decide +kernel, rfl, by decide +kernel, by decide +kernel⟩
abbrev s_t___len__ : Stmt := inClass (topS 23) 2
theorem sc_t___len__ : FnScope ["self"] ["self"] (defScope s_t___len__) := ⟨rfl, rfl, rfl, by decide +kernel, rfl, by decide +kernel, by decide +kernel⟩
abbrev s_t___iter__ : Stmt := inClass (topS 23) 4
theorem sc_t___iter__ : FnScope ["self"] ["self"] (defScope s_t___iter__) := ⟨rfl, rfl, rfl, by decide +kernel, rfl, by decide +kernel, by decide +kernel⟩
abbrev s_t___getitem__ : Stmt := inClass (topS 23) 5
theorem sc_t___getitem__ : FnScope ["self", "place", "first"] ["self", "place"] (defScope s_t___getitem__) := ⟨rfl, rfl, rfl, by decide +kernel, rfl, by decide +kernel, by decide +kernel⟩
abbrev s_t_parent : Stmt := inClass (topS 23) 7
theorem sc_t_parent : FnScope ["self", "place"] ["self", "place"] (defScope s_t_parent) := ⟨rfl, rfl, rfl, by decide +kernel, rfl, by decide +kernel, by decide +kernel⟩
abbrev s_is_heap : Stmt := topS 25
theorem sc_is_heap : FnScope ["row", "arms"] ["row", "arms"] (defScope s_is_heap) := ⟨rfl, rfl, rfl, by decide +kernel, rfl, by decide +kernel, by decide +kernel⟩
abbrev s_faults : Stmt := topS 26
theorem sc_faults : FnScope ["row", "arms", "tree", "place"] ["row", "arms"] (defScope s_faults) := ⟨rfl, rfl, rfl, by decide +kernel, rfl, by decide +kernel, by decide +kernel⟩
abbrev s_heap_of : Stmt := topS 27
theorem sc_heap_of : FnScope ["row", "arms", "wrong"] ["row", "arms"] (defScope s_heap_of) := ⟨rfl, rfl, rfl, by decide +kernel, rfl, by decide +kernel, by decide +kernel⟩
abbrev s_check_count : Stmt := topS 29
theorem sc_check_count : FnScope ["count", "many"] ["count", "many"] (defScope s_check_count) := ⟨rfl, rfl, rfl, by decide +kernel, rfl, by decide +kernel, by decide +kernel⟩
abbrev s_g___init__ : Stmt := inClass (topS 31) 0
theorem sc_g___init__ : FnScope ["self", "least"] ["self", "least"] (defScope s_g___init__) := ⟨rfl, rfl, rfl, by decide +kernel, rfl, by decide +kernel, by decide +kernel⟩
abbrev s_g___eq__ : Stmt := inClass (topS 31) 1
theorem sc_g___eq__ : FnScope ["self", "other"] ["self", "other"] (defScope s_g___eq__) := ⟨rfl, rfl, rfl, by decide +kernel, rfl, by decide +kernel, by decide +kernel⟩
abbrev s_g_shows : Stmt := inClass (topS 31) 2
theorem sc_g_shows : FnScope ["self", "row", "count", "places", "arms", "found", "key"] ["self", "row", "count", "places", "arms"] (defScope s_g_shows) := ⟨rfl, rfl, rfl, by decide +kernel, rfl, by decide +kernel, by decide +kernel⟩
abbrev s_u___init__ : Stmt := inClass (topS 32) 0
theorem sc_u___init__ : FnScope ["self", "row"] ["self", "row"] (defScope s_u___init__) := ⟨rfl, rfl, rfl, by decide +kernel, rfl, by decide +kernel, by decide +kernel⟩
abbrev s_u___eq__ : Stmt := inClass (topS 32) 1
theorem sc_u___eq__ : FnScope ["self", "other"] ["self", "other"] (defScope s_u___eq__) := ⟨rfl, rfl, rfl, by decide +kernel, rfl, by decide +kernel, by decide +kernel⟩
abbrev s_u_shows : Stmt := inClass (topS 32) 2
theorem sc_u_shows : FnScope ["self", "row", "count", "places", "arms", "heap", "key", "place"] ["self", "row", "count", "places", "arms"] (defScope s_u_shows) := ⟨rfl, rfl, rfl, by decide +kernel, rfl, by decide +kernel, by decide +kernel⟩
abbrev s_judge_places : Stmt := topS 33
theorem sc_judge_places : FnScope ["row", "count", "places", "arms", "heap", "least", "other"] ["row", "count", "places", "arms"] (defScope s_judge_places) := ⟨rfl, rfl, rfl, by decide +kernel, rfl, by decide +kernel, by decide +kernel⟩
abbrev s_does_settle : Stmt := topS 34
theorem sc_does_settle : FnScope ["row", "count", "places", "arms"] ["row", "count", "places", "arms"] (defScope s_does_settle) := ⟨rfl, rfl, rfl, by decide +kernel, rfl, by decide +kernel, by decide +kernel⟩
abbrev s_counted_heap_of : Stmt := topS 35
theorem sc_counted_heap_of : FnScope ["row", "count", "arms", "heap"] ["row", "count", "arms"] (defScope s_counted_heap_of) := ⟨rfl, rfl, rfl, by decide +kernel, rfl, by decide +kernel, by decide +kernel⟩
abbrev s_heap_of_places : Stmt := topS 36
theorem sc_heap_of_places : FnScope ["row", "count", "places", "arms", "heap"] ["row", "count", "places", "arms"] (defScope s_heap_of_places) := ⟨rfl, rfl, rfl, by decide +kernel, rfl, by decide +kernel, by decide +kernel⟩
abbrev s_row_with_least : Stmt := topS 37
theorem sc_row_with_least : FnScope ["heap", "places", "arms", "tree", "row", "place"] ["heap", "places", "arms"] (defScope s_row_with_least) := ⟨rfl, rfl, rfl, by decide +kernel, rfl, by decide +kernel, by decide +kernel⟩
abbrev s_row_with_greatest : Stmt := topS 38
theorem sc_row_with_greatest : FnScope ["heap", "places", "arms", "tree", "row", "place", "child"] ["heap", "places", "arms"] (defScope s_row_with_greatest) := ⟨rfl, rfl, rfl, by decide +kernel, rfl, by decide +kernel, by decide +kernel⟩
abbrev s__law_number : Stmt := topS 40
theorem sc__law_number : FnScope ["script", "index", "cells", "cell", "low", "high", "total", "blend"] ["script", "index"] (defScope s__law_number) := ⟨rfl, rfl, rfl, by decide +kernel, rfl, by decide +kernel, by decide +kernel⟩
abbrev s__law_heap : Stmt := topS 41
theorem sc__law_heap : FnScope ["script", "at", "many", "wide", "span", "found", "place", "least"] ["script", "at", "many", "wide", "span"] (defScope s__law_heap) := ⟨rfl, rfl, rfl, by decide +kernel, rfl, by decide +kernel, by decide +kernel⟩
abbrev s__law_sets : Stmt := topS 42
theorem sc__law_sets : FnScope ["things", "count", "found", "thing", "some"] ["things", "count"] (defScope s__law_sets) := ⟨rfl, rfl, rfl, by decide +kernel, rfl, by decide +kernel, by decide +kernel⟩
abbrev s__law_rows : Stmt := topS 43
theorem sc__law_rows : FnScope ["row", "wide", "places", "near", "found", "place", "late", "some", "least", "able", "key"] ["row", "wide", "places"] (defScope s__law_rows) := ⟨rfl, rfl, rfl, by decide +kernel, rfl, by decide +kernel, by decide +kernel⟩
abbrev s__law_changed : Stmt := topS 44
theorem sc__law_changed : FnScope ["row", "told", "places", "key", "found", "place"] ["row", "told", "places"] (defScope s__law_changed) := ⟨rfl, rfl, rfl, by decide +kernel, rfl, by decide +kernel, by decide +kernel⟩
abbrev s__law_due : Stmt := topS 45
theorem sc__law_due : FnScope ["late", "row", "wide", "count", "places", "key", "place"] ["late", "row", "wide", "count", "places"] (defScope s__law_due) := ⟨rfl, rfl, rfl, by decide +kernel, rfl, by decide +kernel, by decide +kernel⟩
abbrev s__law_right : Stmt := topS 46
theorem sc__law_right : FnScope ["row", "wide", "count", "places", "late", "rows", "found", "keys", "due", "some"] ["row", "wide", "count", "places"] (defScope s__law_right) := ⟨rfl, rfl, rfl, by decide +kernel, rfl, by decide +kernel, by decide +kernel⟩
abbrev s_law : Stmt := topS 47
theorem sc_law : FnScope ["script", "seed", "many", "wide", "span", "row", "some", "size", "start", "places", "key", "one", "count"] ["script"] (defScope s_law) := ⟨rfl, rfl, rfl, by decide +kernel, rfl, by decide +kernel, by decide +kernel⟩
/-- where the text's defs stand -/
structure Ad where
  f_is_integer : Addr
  d_is_integer : FuncData
  f_is_integer_from : Addr
  d_is_integer_from : FuncData
  f_is_key : Addr
  d_is_key : FuncData
  f_check_arms : Addr
  d_check_arms : FuncData
  f_check_many : Addr
  d_check_many : FuncData
  f_check_place : Addr
  d_check_place : FuncData
  f_row_of : Addr
  d_row_of : FuncData
  f_is_set_of_places : Addr
  d_is_set_of_places : FuncData
  f_t___init__ : Addr
  d_t___init__ : FuncData
  f_t_of : Addr
  d_t_of : FuncData
  f_t___len__ : Addr
  d_t___len__ : FuncData
  f_t___iter__ : Addr
  d_t___iter__ : FuncData
  f_t___getitem__ : Addr
  d_t___getitem__ : FuncData
  f_t_parent : Addr
  d_t_parent : FuncData
  f_is_heap : Addr
  d_is_heap : FuncData
  f_faults : Addr
  d_faults : FuncData
  f_heap_of : Addr
  d_heap_of : FuncData
  f_check_count : Addr
  d_check_count : FuncData
  f_g___init__ : Addr
  d_g___init__ : FuncData
  f_g___eq__ : Addr
  d_g___eq__ : FuncData
  f_g_shows : Addr
  d_g_shows : FuncData
  f_u___init__ : Addr
  d_u___init__ : FuncData
  f_u___eq__ : Addr
  d_u___eq__ : FuncData
  f_u_shows : Addr
  d_u_shows : FuncData
  f_judge_places : Addr
  d_judge_places : FuncData
  f_does_settle : Addr
  d_does_settle : FuncData
  f_counted_heap_of : Addr
  d_counted_heap_of : FuncData
  f_heap_of_places : Addr
  d_heap_of_places : FuncData
  f_row_with_least : Addr
  d_row_with_least : FuncData
  f_row_with_greatest : Addr
  d_row_with_greatest : FuncData
  f__law_number : Addr
  d__law_number : FuncData
  f__law_heap : Addr
  d__law_heap : FuncData
  f__law_sets : Addr
  d__law_sets : FuncData
  f__law_rows : Addr
  d__law_rows : FuncData
  f__law_changed : Addr
  d__law_changed : FuncData
  f__law_due : Addr
  d__law_due : FuncData
  f__law_right : Addr
  d__law_right : FuncData
  f_law : Addr
  d_law : FuncData
  C : Addr
  po : Addr
  CG : Addr
  CU : Addr
/-- what the top has written -/
structure Tx (K : PySem.W.Frag) (mg : Str → Option Value) (A : Ad) : Prop where
  F_is_integer : Fun K "is_integer" "is_integer" s_is_integer A.f_is_integer A.d_is_integer
  m_is_integer : mg "is_integer" = some (.ref A.f_is_integer)
  F_is_integer_from : Fun K "is_integer_from" "is_integer_from" s_is_integer_from A.f_is_integer_from A.d_is_integer_from
  m_is_integer_from : mg "is_integer_from" = some (.ref A.f_is_integer_from)
  F_is_key : Fun K "is_key" "is_key" s_is_key A.f_is_key A.d_is_key
  m_is_key : mg "is_key" = some (.ref A.f_is_key)
  F_check_arms : Fun K "check_arms" "check_arms" s_check_arms A.f_check_arms A.d_check_arms
  m_check_arms : mg "check_arms" = some (.ref A.f_check_arms)
  F_check_many : Fun K "check_many" "check_many" s_check_many A.f_check_many A.d_check_many
  m_check_many : mg "check_many" = some (.ref A.f_check_many)
  F_check_place : Fun K "check_place" "check_place" s_check_place A.f_check_place A.d_check_place
  m_check_place : mg "check_place" = some (.ref A.f_check_place)
  F_row_of : Fun K "row_of" "row_of" s_row_of A.f_row_of A.d_row_of
  m_row_of : mg "row_of" = some (.ref A.f_row_of)
  F_is_set_of_places : Fun K "is_set_of_places" "is_set_of_places" s_is_set_of_places A.f_is_set_of_places A.d_is_set_of_places
  m_is_set_of_places : mg "is_set_of_places" = some (.ref A.f_is_set_of_places)
  F_t___init__ : FunD K "__init__" "Tree.__init__" (defArgs s_t___init__) (defBody s_t___init__) (defScope s_t___init__) [] [("arms", V.int 2)] A.f_t___init__ A.d_t___init__
  F_t_of : FunD K "of" "Tree.of" (defArgs s_t_of) (defBody s_t_of) (defScope s_t_of) [] [("arms", V.int 2)] A.f_t_of A.d_t_of
  F_t___len__ : Fun K "__len__" "Tree.__len__" s_t___len__ A.f_t___len__ A.d_t___len__
  D_t___len__ : Dn K A.C "__len__" A.f_t___len__
  F_t___iter__ : Fun K "__iter__" "Tree.__iter__" s_t___iter__ A.f_t___iter__ A.d_t___iter__
  D_t___iter__ : Dn K A.C "__iter__" A.f_t___iter__
  F_t___getitem__ : Fun K "__getitem__" "Tree.__getitem__" s_t___getitem__ A.f_t___getitem__ A.d_t___getitem__
  D_t___getitem__ : Dn K A.C "__getitem__" A.f_t___getitem__
  F_t_parent : Fun K "parent" "Tree.parent" s_t_parent A.f_t_parent A.d_t_parent
  M_t_parent : Meth K A.C "parent" A.f_t_parent
  F_is_heap : FunD K "is_heap" "is_heap" (defArgs s_is_heap) (defBody s_is_heap) (defScope s_is_heap) [] [("arms", V.int 2)] A.f_is_heap A.d_is_heap
  m_is_heap : mg "is_heap" = some (.ref A.f_is_heap)
  F_faults : FunD K "faults" "faults" (defArgs s_faults) (defBody s_faults) (defScope s_faults) [] [("arms", V.int 2)] A.f_faults A.d_faults
  m_faults : mg "faults" = some (.ref A.f_faults)
  F_heap_of : Fun K "heap_of" "heap_of" s_heap_of A.f_heap_of A.d_heap_of
  m_heap_of : mg "heap_of" = some (.ref A.f_heap_of)
  F_check_count : Fun K "check_count" "check_count" s_check_count A.f_check_count A.d_check_count
  m_check_count : mg "check_count" = some (.ref A.f_check_count)
  F_g___init__ : Fun K "__init__" "Settled.__init__" s_g___init__ A.f_g___init__ A.d_g___init__
  F_g___eq__ : Fun K "__eq__" "Settled.__eq__" s_g___eq__ A.f_g___eq__ A.d_g___eq__
  F_g_shows : FunD K "shows" "Settled.shows" (defArgs s_g_shows) (defBody s_g_shows) (defScope s_g_shows) [] [("arms", V.int 2)] A.f_g_shows A.d_g_shows
  M_g_shows : Meth K A.CG "shows" A.f_g_shows
  F_u___init__ : Fun K "__init__" "Unsettled.__init__" s_u___init__ A.f_u___init__ A.d_u___init__
  F_u___eq__ : Fun K "__eq__" "Unsettled.__eq__" s_u___eq__ A.f_u___eq__ A.d_u___eq__
  F_u_shows : FunD K "shows" "Unsettled.shows" (defArgs s_u_shows) (defBody s_u_shows) (defScope s_u_shows) [] [("arms", V.int 2)] A.f_u_shows A.d_u_shows
  M_u_shows : Meth K A.CU "shows" A.f_u_shows
  F_judge_places : FunD K "judge_places" "judge_places" (defArgs s_judge_places) (defBody s_judge_places) (defScope s_judge_places) [] [("arms", V.int 2)] A.f_judge_places A.d_judge_places
  m_judge_places : mg "judge_places" = some (.ref A.f_judge_places)
  F_does_settle : FunD K "does_settle" "does_settle" (defArgs s_does_settle) (defBody s_does_settle) (defScope s_does_settle) [] [("arms", V.int 2)] A.f_does_settle A.d_does_settle
  m_does_settle : mg "does_settle" = some (.ref A.f_does_settle)
  F_counted_heap_of : Fun K "counted_heap_of" "counted_heap_of" s_counted_heap_of A.f_counted_heap_of A.d_counted_heap_of
  m_counted_heap_of : mg "counted_heap_of" = some (.ref A.f_counted_heap_of)
  F_heap_of_places : Fun K "heap_of_places" "heap_of_places" s_heap_of_places A.f_heap_of_places A.d_heap_of_places
  m_heap_of_places : mg "heap_of_places" = some (.ref A.f_heap_of_places)
  F_row_with_least : Fun K "row_with_least" "row_with_least" s_row_with_least A.f_row_with_least A.d_row_with_least
  m_row_with_least : mg "row_with_least" = some (.ref A.f_row_with_least)
  F_row_with_greatest : Fun K "row_with_greatest" "row_with_greatest" s_row_with_greatest A.f_row_with_greatest A.d_row_with_greatest
  m_row_with_greatest : mg "row_with_greatest" = some (.ref A.f_row_with_greatest)
  F__law_number : Fun K "_law_number" "_law_number" s__law_number A.f__law_number A.d__law_number
  m__law_number : mg "_law_number" = some (.ref A.f__law_number)
  F__law_heap : Fun K "_law_heap" "_law_heap" s__law_heap A.f__law_heap A.d__law_heap
  m__law_heap : mg "_law_heap" = some (.ref A.f__law_heap)
  F__law_sets : Fun K "_law_sets" "_law_sets" s__law_sets A.f__law_sets A.d__law_sets
  m__law_sets : mg "_law_sets" = some (.ref A.f__law_sets)
  F__law_rows : Fun K "_law_rows" "_law_rows" s__law_rows A.f__law_rows A.d__law_rows
  m__law_rows : mg "_law_rows" = some (.ref A.f__law_rows)
  F__law_changed : Fun K "_law_changed" "_law_changed" s__law_changed A.f__law_changed A.d__law_changed
  m__law_changed : mg "_law_changed" = some (.ref A.f__law_changed)
  F__law_due : Fun K "_law_due" "_law_due" s__law_due A.f__law_due A.d__law_due
  m__law_due : mg "_law_due" = some (.ref A.f__law_due)
  F__law_right : Fun K "_law_right" "_law_right" s__law_right A.f__law_right A.d__law_right
  m__law_right : mg "_law_right" = some (.ref A.f__law_right)
  F_law : Fun K "law" "law" s_law A.f_law A.d_law
  m_law : mg "law" = some (.ref A.f_law)
  c_GREATEST_KEY : mg "GREATEST_KEY" = some (.int 1000000000 0) ∨ ∃ t, mg "GREATEST_KEY" = some (.int 1000000000 t)
  c_MOST_ARMS : mg "MOST_ARMS" = some (.int 4 0) ∨ ∃ t, mg "MOST_ARMS" = some (.int 4 t)
  c_MOST_PLACES : mg "MOST_PLACES" = some (.int 12 0) ∨ ∃ t, mg "MOST_PLACES" = some (.int 12 t)
  g_all : mg "all" = none
  g_any : mg "any" = none
  g_bool : mg "bool" = none
  g_enumerate : mg "enumerate" = none
  g_int : mg "int" = none
  g_isinstance : mg "isinstance" = none
  g_iter : mg "iter" = none
  g_len : mg "len" = none
  g_list : mg "list" = none
  g_max : mg "max" = none
  g_min : mg "min" = none
  g_range : mg "range" = none
  g_reversed : mg "reversed" = none
  g_set : mg "set" = none
  g_sorted : mg "sorted" = none
  g_sum : mg "sum" = none
  g_tuple : mg "tuple" = none
  cT : Cls K A.C
  nMany : NoAttr K A.C "many"
  nArms : NoAttr K A.C "arms"
  nPl : NoAttr K A.C "_places"
  mC : mg "Tree" = some (.ref A.C)
  mkC : Mk K A.C A.f_t___init__
  cr : ClX.CRead K A.C (.type "type")
  cof : ClX.CMet K A.C (.type "type") "of" A.po A.f_t_of
  cTG : Cls K A.CG
  gLeast : NoAttr K A.CG "least"
  mCG : mg "Settled" = some (.ref A.CG)
  mkCG : Mk K A.CG A.f_g___init__
  eqcG : EqC K A.CG A.f_g___eq__
  kaG : PySem.W.findIn K (.ref A.CG) "__class__" = some (some (.builtin "object.__class__"))
  knG : PySem.W.specialIn K (.builtin "object.__class__") "__get__" = some (some (.builtin "getset_descriptor.__get__"))
  ktkG : PySem.W.takesIn K (.builtin "object.__class__") = some true
  kmG : PySem.W.mroIn K A.CG (.type "object") = some true
  kiG_int : PySem.W.kitOne K (.type "int") (.ref A.CG) = some false
  kiG_tuple : PySem.W.kitOne K (.type "tuple") (.ref A.CG) = some false
  nfG_CU : PySem.W.notFirst K A.CG (.ref A.CU) = true
  kiG_CU : PySem.W.kitOne K (.ref A.CU) (.ref A.CG) = some false
  cTU : Cls K A.CU
  uRow : NoAttr K A.CU "row"
  mCU : mg "Unsettled" = some (.ref A.CU)
  mkCU : Mk K A.CU A.f_u___init__
  eqcU : EqC K A.CU A.f_u___eq__
  kaU : PySem.W.findIn K (.ref A.CU) "__class__" = some (some (.builtin "object.__class__"))
  knU : PySem.W.specialIn K (.builtin "object.__class__") "__get__" = some (some (.builtin "getset_descriptor.__get__"))
  ktkU : PySem.W.takesIn K (.builtin "object.__class__") = some true
  kmU : PySem.W.mroIn K A.CU (.type "object") = some true
  kiU_int : PySem.W.kitOne K (.type "int") (.ref A.CU) = some false
  kiU_tuple : PySem.W.kitOne K (.type "tuple") (.ref A.CU) = some false
  nfU_CG : PySem.W.notFirst K A.CU (.ref A.CG) = true
  kiU_CG : PySem.W.kitOne K (.ref A.CG) (.ref A.CU) = some false

end Tw

set_option Elab.async false
set_option linter.all false
set_option maxRecDepth 100000
set_option maxHeartbeats 2000000
namespace Tw
open PySem PySem.Spec PyProof.Rows L2
section
variable {P : Program} {w : World} {K : PySem.W.Frag} {mg : Str → Option Value} {base : Heap} {A : Ad}
open LamX (ExtN Tabs TabS)
def e0 : Str := ⟨#[]⟩
theorem extN_of {H H' : Hp} (s : Same H H') : ExtN H H' := fun b o e _ => s b o e
theorem ints_dp (K : PySem.W.Frag) (H : Hp) : ∀ ns : List Int, DpAll K H (ns.map V.int) (ns.map PyData.int)
  | [] => .nil
  | n :: ns => .cons (.int n) (ints_dp K H ns)
theorem ints_all : ∀ ks ms : List Int, PyData.eqvAll (ks.map PyData.int) (ms.map PyData.int) = decide (ks = ms)
  | [], [] => by simp [PyData.eqvAll]
  | [], m :: ms => by simp [PyData.eqvAll]
  | k :: ks, [] => by simp [PyData.eqvAll]
  | k :: ks, m :: ms => by
    simp only [List.map_cons, PyData.eqvAll, ints_all ks ms, PyData.eqv]
    by_cases h1 : k = m
    · by_cases h2 : ks = ms <;> simp [h1, h2]
    · simp [h1]
theorem ints_eqv (ks ms : List Int) : PyData.eqv (.tuple (ks.map PyData.int)) (.tuple (ms.map PyData.int)) = decide (ks = ms) := by
  rw [← ints_all]
  simp [PyData.eqv]
theorem ints_eqvL (a b : List Int) : PyData.eqv (.list (a.map PyData.int)) (.list (b.map PyData.int)) = decide (a = b) := by
  rw [← ints_all]
  simp [PyData.eqv]
theorem shaped_ints (ns : List Int) : SeqAt.shaped (.list (ns.map PyData.int)) = true := by
  have h1 : ∀ ms : List Int, PyData.canLayAll0 (ms.map PyData.int) = true := fun ms => by
    induction ms with
    | nil => rfl
    | cons m ms ih => rw [List.map_cons, PyData.canLayAll0, ih]; rfl
  have h2 : ∀ ms : List Int, PyData.depthAll (ms.map PyData.int) ≤ 1 := fun ms => by
    induction ms with
    | nil => simp [PyData.depthAll]
    | cons m ms ih =>
      simp only [List.map_cons, PyData.depthAll, PyData.depth]
      omega
  have h3 : PyData.depth (.list (ns.map PyData.int)) ≤ 64 := by
    have := h2 ns
    simp only [PyData.depth]
    omega
  unfold SeqAt.shaped
  rw [decide_eq_true h3, Bool.and_true]
  simp only [PyData.canLay0]
  exact h1 ns
theorem ints_shT (ks : List Int) : SeqAt.shaped (.tuple (ks.map PyData.int)) = true := by
  have h := shaped_ints ks
  unfold SeqAt.shaped at h ⊢
  simp only [PyData.canLay0, PyData.depth] at h ⊢
  exact h
theorem ints_tup (K : PySem.W.Frag) {H : Hp} {a : Addr} {ks : List Int} (h : H a = some (.tup (ks.map V.int))) : Dp K H (.ref a) (.tuple (ks.map PyData.int)) := .tup (SqT.of h) (ints_dp K H ks)
end
end Tw

set_option Elab.async false
set_option linter.all false
set_option maxRecDepth 100000
set_option maxHeartbeats 2000000
namespace Tw
open PySem PySem.Spec PyProof.Rows L2
section
variable {P : Program} {w : World} {K : PySem.W.Frag} {mg : Str → Option Value} {base : Heap} {A : Ad}
open LamX (ExtN Tabs TabS)
/-! evidence: shaped_ints ints_dp ints_tup ints_shT ints_eqv ints_eqvL -/
theorem int_deq (a b : Int) : decide (V.int a = V.int b) = decide (a = b) := by
  by_cases h : a = b
  · rw [decide_eq_true h, decide_eq_true (by rw [h])]
  · rw [decide_eq_false h, decide_eq_false fun z => h (by injection z)]
theorem intsL_eqv (x y : List Int) : PyData.eqv (.list (x.map .int)) (.list (y.map .int)) = decide (x = y) := ints_eqvL x y
/-! Settled -/
def fdG (v0 : V) : List (Str × V) := putF "least" v0 (([] : List (Str × V)))
theorem fdG_least (v0 : V) : (fdG v0).lookup ("least" : Str) = some v0 := by
  unfold fdG
  rw [lookup_putF, if_pos rfl]
def AtG (C : Addr) (H : Hp) (p : Addr) (x0 : List Int) : Prop := ∃ (dx t0 : Addr), H p = some (.ins C dx (fdG (.ref t0))) ∧ H t0 = some (.lst (x0.map V.int))
theorem AtG.ext {C : Addr} {H H' : Hp} {p : Addr} {x0 : List Int} (h : AtG C H p x0) (e : LamX.ExtN H H') : AtG C H' p x0 := let ⟨dx, t0, h, e0⟩ := h; ⟨dx, t0, e _ _ h (fun _ z => nomatch z), e _ _ e0 (fun _ z => nomatch z)⟩
theorem AtG.same {C : Addr} {H H' : Hp} {p : Addr} {x0 : List Int} (h : AtG C H p x0) (s : Same H H') : AtG C H' p x0 := h.ext (extN_of s)
theorem AtG.ins {C : Addr} {H : Hp} {p : Addr} {x0 : List Int} (h : AtG C H p x0) : ∃ dx fs, H p = some (.ins C dx fs) := let ⟨dx, t0, h, e0⟩ := h; ⟨dx, _, h⟩
def spIG (C : Addr) : Sp := fun vs H Q _ => ∃ (p dx a0 : Nat) (x0 : List Int), vs = [.ref p, .ref a0] ∧ H p = some (.ins C dx []) ∧ (H a0 = some (.lst (x0.map V.int)) ∨ H a0 = some (.tup (x0.map V.int))) ∧ ∀ (H' : Hp), (∀ b o, H b = some o → b ≠ p → H' b = some o) → AtG C H' p x0 → Q .non H'
theorem ok_iG (T : Tx K mg A) : FnOk P w K mg base CX0 1 A.f_g___init__ A.d_g___init__ ["self", "least"] (spIG A.CG) := by
  refine T.F_g___init__.ok sc_g___init__ (fun vs H Q E h => ?_) (fun cdv B outer s H vs Q E hr h => ?_)
  · obtain ⟨p, dx, a0, x0, rfl, _⟩ := h
    rfl
  · obtain ⟨p, dx, a0, x0, rfl, hp, ha0, q⟩ := h
    refine ⟨_, (pss_one (ps_fld (pv 0) (pe_callTy (r := rListK K) call_listK (by rfl) T.g_list (by decide +kernel) (pa_cons (pv 1) pa_nil)) rfl)), ?_⟩
    have fr : ∀ b o, H b = some o → b ≠ p → H b = some o := fun b o e _ => e
    refine ⟨_, rfl, a0, _, rfl, ha0.imp (fun z => SqL.of z) (fun z => SqT.of z), fun t0 nt0 => ?_⟩
    have s0 := Same.up (o := .lst (x0.map V.int)) nt0
    have e0 : upd H t0 (.lst (x0.map V.int)) t0 = some (.lst (x0.map V.int)) := upd_same
    generalize upd H t0 (.lst (x0.map V.int)) = G0 at s0 e0
    have hp := s0 _ _ hp
    have fr : ∀ b o, H b = some o → b ≠ p → G0 b = some o := fun b o e n => s0 _ _ (fr b o e n)
    refine ⟨_, rfl, p, A.CG, dx, _, rfl, hp, T.cTG, T.gLeast, (by show 0 < 1000; decide), ?_⟩
    have fr : ∀ b o, H b = some o → b ≠ p → (upd G0 p (.ins A.CG dx (putF "least" (.ref t0) ([])))) b = some o := fun b o e n => by rw [upd_ne n]; exact fr b o e n
    have e0 : (upd G0 p (.ins A.CG dx (putF "least" (.ref t0) ([])))) t0 = _ := (upd_ne (ne_of e0 hp (by intro z; cases z))).trans e0
    have hp : (upd G0 p (.ins A.CG dx (putF "least" (.ref t0) ([])))) p = _ := upd_same
    exact q _ fr ⟨dx, t0, hp, e0⟩
theorem b_iG (T : Tx K mg A) : L2.Binds K A.d_g___init__ ["self", "least"] [] := T.F_g___init__.binds fun _ _ _ _ _ _ us hl => match us, hl with | [_, _], _ => rfl
def spEG (K : PySem.W.Frag) (C : Addr) : Sp := fun vs H Q _ => ∃ (o : Addr) (y : V) (x0 : List Int), vs = [.ref o, y] ∧ AtG C H o x0 ∧ ((∃ (b : Addr) (y0 : List Int), y = .ref b ∧ AtG C H b y0 ∧ Q (.bl (decide (x0 = y0))) H) ∨
  (∃ u, TyX K H y u ∧ PySem.W.kitOne K u (.ref C) = some false ∧ Q (.bl false) H))
theorem ok_eG (T : Tx K mg A) : FnOk P w K mg base CX0 1 A.f_g___eq__ A.d_g___eq__ ["self", "other"] (spEG K A.CG) := by
  refine T.F_g___eq__.ok sc_g___eq__ (fun vs H Q E h => ?_) (fun cdv B outer s H vs Q E hr h => ?_)
  · obtain ⟨o, y, x0, rfl, _⟩ := h
    rfl
  · obtain ⟨o, y, x0, rfl, ⟨dx, t0, g, e0⟩, h⟩ := h
    have hu := hr.units
    refine ⟨_, (pss_one (ps_ret (pe_and (pe_callB (r := rIsi K) call_isi (by rfl) T.g_isinstance (by decide +kernel) (pa_cons (pv 1) (pa_cons (pe_glob (v := .ref A.CG) (by rfl) T.mCG (relR _)) pa_nil))) (pe_one (pe_cmpR (op_eqD hu) (pe_fld (pv 0) rfl) (pe_fld (pv 1) rfl) (nomark _)))))), ?_⟩
    rcases h with ⟨b, y0, rfl, ⟨dy, u0, k, f0⟩, q⟩ | ⟨u, ty, kt, q⟩
    · refine ⟨_, rfl, _, _, .ref A.CG, _, true, rfl, .own A.CG, .base (.ins k T.cTG T.kaG T.knG T.ktkG T.kmG), (by unfold PySem.W.kitOne; rw [if_pos (by simp)]), true, rfl, iteT ?_⟩
      refine ⟨_, rfl, o, A.CG, dx, _, _, rfl, g, T.cTG, T.gLeast, fdG_least _, _, rfl, b, A.CG, dy, _, _, rfl, k, T.cTG, T.gLeast, fdG_least _, _, _, .lst (SqL.of e0) (ints_dp _ _ _), .lst (SqL.of f0) (ints_dp _ _ _), shaped_ints _, shaped_ints _, ?_⟩
      rw [intsL_eqv]
      exact q
    · exact ⟨_, rfl, _, _, u, _, false, rfl, .own A.CG, ty, kt, false, rfl, iteF q⟩
theorem b_eG (T : Tx K mg A) : L2.Binds K A.d_g___eq__ ["self", "other"] [] := T.F_g___eq__.binds fun _ _ _ _ _ _ us hl => match us, hl with | [_, _], _ => rfl
/-! Unsettled -/
def fdU (v0 : V) : List (Str × V) := putF "row" v0 (([] : List (Str × V)))
theorem fdU_row (v0 : V) : (fdU v0).lookup ("row" : Str) = some v0 := by
  unfold fdU
  rw [lookup_putF, if_pos rfl]
def AtU (C : Addr) (H : Hp) (p : Addr) (x0 : List Int) : Prop := ∃ (dx t0 : Addr), H p = some (.ins C dx (fdU (.ref t0))) ∧ H t0 = some (.tup (x0.map V.int))
theorem AtU.ext {C : Addr} {H H' : Hp} {p : Addr} {x0 : List Int} (h : AtU C H p x0) (e : LamX.ExtN H H') : AtU C H' p x0 := let ⟨dx, t0, h, e0⟩ := h; ⟨dx, t0, e _ _ h (fun _ z => nomatch z), e _ _ e0 (fun _ z => nomatch z)⟩
theorem AtU.same {C : Addr} {H H' : Hp} {p : Addr} {x0 : List Int} (h : AtU C H p x0) (s : Same H H') : AtU C H' p x0 := h.ext (extN_of s)
theorem AtU.ins {C : Addr} {H : Hp} {p : Addr} {x0 : List Int} (h : AtU C H p x0) : ∃ dx fs, H p = some (.ins C dx fs) := let ⟨dx, t0, h, e0⟩ := h; ⟨dx, _, h⟩
def spIU (C : Addr) : Sp := fun vs H Q _ => ∃ (p dx a0 : Nat) (x0 : List Int), vs = [.ref p, .ref a0] ∧ H p = some (.ins C dx []) ∧ (H a0 = some (.lst (x0.map V.int)) ∨ H a0 = some (.tup (x0.map V.int))) ∧ ∀ (H' : Hp), (∀ b o, H b = some o → b ≠ p → H' b = some o) → AtU C H' p x0 → Q .non H'
theorem ok_iU (T : Tx K mg A) : FnOk P w K mg base CX0 1 A.f_u___init__ A.d_u___init__ ["self", "row"] (spIU A.CU) := by
  refine T.F_u___init__.ok sc_u___init__ (fun vs H Q E h => ?_) (fun cdv B outer s H vs Q E hr h => ?_)
  · obtain ⟨p, dx, a0, x0, rfl, _⟩ := h
    rfl
  · obtain ⟨p, dx, a0, x0, rfl, hp, ha0, q⟩ := h
    refine ⟨_, (pss_one (ps_fld (pv 0) (pe_callTy (r := rTupU) call_tupU (by rfl) T.g_tuple (by decide +kernel) (pa_cons (pv 1) pa_nil)) rfl)), ?_⟩
    have fr : ∀ b o, H b = some o → b ≠ p → H b = some o := fun b o e _ => e
    refine ⟨_, rfl, a0, _, rfl, ha0, fun t0 G0 s0 e0 => ?_⟩
    have hp := s0 _ _ hp
    have fr : ∀ b o, H b = some o → b ≠ p → G0 b = some o := fun b o e n => s0 _ _ (fr b o e n)
    refine ⟨_, rfl, p, A.CU, dx, _, rfl, hp, T.cTU, T.uRow, (by show 0 < 1000; decide), ?_⟩
    have fr : ∀ b o, H b = some o → b ≠ p → (upd G0 p (.ins A.CU dx (putF "row" (.ref t0) ([])))) b = some o := fun b o e n => by rw [upd_ne n]; exact fr b o e n
    have e0 : (upd G0 p (.ins A.CU dx (putF "row" (.ref t0) ([])))) t0 = _ := (upd_ne (ne_of e0 hp (by intro z; cases z))).trans e0
    have hp : (upd G0 p (.ins A.CU dx (putF "row" (.ref t0) ([])))) p = _ := upd_same
    exact q _ fr ⟨dx, t0, hp, e0⟩
theorem b_iU (T : Tx K mg A) : L2.Binds K A.d_u___init__ ["self", "row"] [] := T.F_u___init__.binds fun _ _ _ _ _ _ us hl => match us, hl with | [_, _], _ => rfl
def spEU (K : PySem.W.Frag) (C : Addr) : Sp := fun vs H Q _ => ∃ (o : Addr) (y : V) (x0 : List Int), vs = [.ref o, y] ∧ AtU C H o x0 ∧ ((∃ (b : Addr) (y0 : List Int), y = .ref b ∧ AtU C H b y0 ∧ Q (.bl (decide (x0 = y0))) H) ∨
  (∃ u, TyX K H y u ∧ PySem.W.kitOne K u (.ref C) = some false ∧ Q (.bl false) H))
theorem ok_eU (T : Tx K mg A) : FnOk P w K mg base CX0 1 A.f_u___eq__ A.d_u___eq__ ["self", "other"] (spEU K A.CU) := by
  refine T.F_u___eq__.ok sc_u___eq__ (fun vs H Q E h => ?_) (fun cdv B outer s H vs Q E hr h => ?_)
  · obtain ⟨o, y, x0, rfl, _⟩ := h
    rfl
  · obtain ⟨o, y, x0, rfl, ⟨dx, t0, g, e0⟩, h⟩ := h
    have hu := hr.units
    refine ⟨_, (pss_one (ps_ret (pe_and (pe_callB (r := rIsi K) call_isi (by rfl) T.g_isinstance (by decide +kernel) (pa_cons (pv 1) (pa_cons (pe_glob (v := .ref A.CU) (by rfl) T.mCU (relR _)) pa_nil))) (pe_one (pe_cmpR (op_eqD hu) (pe_fld (pv 0) rfl) (pe_fld (pv 1) rfl) (nomark _)))))), ?_⟩
    rcases h with ⟨b, y0, rfl, ⟨dy, u0, k, f0⟩, q⟩ | ⟨u, ty, kt, q⟩
    · refine ⟨_, rfl, _, _, .ref A.CU, _, true, rfl, .own A.CU, .base (.ins k T.cTU T.kaU T.knU T.ktkU T.kmU), (by unfold PySem.W.kitOne; rw [if_pos (by simp)]), true, rfl, iteT ?_⟩
      refine ⟨_, rfl, o, A.CU, dx, _, _, rfl, g, T.cTU, T.uRow, fdU_row _, _, rfl, b, A.CU, dy, _, _, rfl, k, T.cTU, T.uRow, fdU_row _, _, _, ints_tup K e0, ints_tup K f0, ints_shT _, ints_shT _, ?_⟩
      rw [ints_eqv]
      exact q
    · exact ⟨_, rfl, _, _, u, _, false, rfl, .own A.CU, ty, kt, false, rfl, iteF q⟩
theorem b_eU (T : Tx K mg A) : L2.Binds K A.d_u___eq__ ["self", "other"] [] := T.F_u___eq__.binds fun _ _ _ _ _ _ us hl => match us, hl with | [_, _], _ => rfl

end
end Tw

set_option Elab.async false
set_option linter.all false
set_option maxRecDepth 100000
set_option maxHeartbeats 2000000
namespace Tw
open PySem PySem.Spec PyProof.Rows L2
section
variable {P : Program} {w : World} {K : PySem.W.Frag} {mg : Str → Option Value} {base : Heap} {A : Ad}
open LamX (ExtN Tabs TabS)
def keyAt (ks : List Int) (p : Nat) : Int := ks.getD p 0
def HeapL (n w : Nat) (ks : List Int) : Prop := ∀ c, 1 ≤ c → c < n → keyAt ks ((c - 1) / w) ≤ keyAt ks c
theorem keyAt_mem {ks : List Int} {p : Nat} (h : p < ks.length) : keyAt ks p ∈ ks := by
  unfold keyAt
  rw [List.getD_eq_getElem?_getD, List.getElem?_eq_getElem h]
  exact List.getElem_mem h
abbrev Pr := Int × Str
def keys (ps : List Pr) : List Int := ps.map (·.1)
/-- the children as the law looks for them -/
def kidL (n w i : Nat) : List Nat := ((List.range (n - 1)).filter fun j => decide (j / w = i)).map (· + 1)
theorem mem_kidL {n w i c : Nat} : c ∈ kidL n w i ↔ 0 < c ∧ c < n ∧ (c - 1) / w = i := by
  unfold kidL
  rw [List.mem_map]
  refine ⟨fun ⟨j, hj, e⟩ => ?_, fun ⟨h0, hn, h⟩ => ⟨c - 1, ?_, by omega⟩⟩
  · obtain ⟨h1, h2⟩ := List.mem_filter.mp hj
    have h1 := List.mem_range.mp h1
    have h2 := of_decide_eq_true h2
    subst e
    exact ⟨by omega, by omega, by rw [Nat.add_sub_cancel]; exact h2⟩
  · exact List.mem_filter.mpr ⟨List.mem_range.mpr (by omega), decide_eq_true h⟩
theorem sorted_one {xs ys : List Int} (hp : xs.Perm ys) (h1 : xs.Pairwise (· ≤ ·)) (h2 : ys.Pairwise (· ≤ ·)) : xs = ys := List.Perm.eq_of_pairwise (fun x y _ _ h1 h2 => Int.le_antisymm h1 h2) h1 h2 hp
end
end Tw

set_option Elab.async false
set_option linter.all false
set_option maxRecDepth 100000
set_option maxHeartbeats 2000000
namespace Tw
open PySem PySem.Spec PyProof.Rows L2
section
variable {P : Program} {w : World} {K : PySem.W.Frag} {mg : Str → Option Value} {base : Heap} {A : Ad}
open LamX (ExtN Tabs TabS)
/-! heaps that agree with a row at some places: HeapL keyAt keyAt_mem kidL mem_kidL sorted_one -/
def srtI (ks : List Int) : List Int := ks.mergeSort (fun a b => decide (a ≤ b))
theorem srtI_perm (ks : List Int) : (srtI ks).Perm ks := List.mergeSort_perm _ _
theorem srtI_asc (ks : List Int) : (srtI ks).Pairwise (· ≤ ·) := by
  have := List.pairwise_mergeSort (le := fun a b : Int => decide (a ≤ b)) (fun a b c h1 h2 => by
    rw [decide_eq_true_eq] at h1 h2 ⊢
    omega) (fun a b => by
    rw [Bool.or_eq_true, decide_eq_true_eq, decide_eq_true_eq]
    omega) ks
  exact this.imp fun h => of_decide_eq_true h
theorem srtI_len (ks : List Int) : (srtI ks).length = ks.length := (srtI_perm ks).length_eq
theorem srtI_one {ks zs : List Int} (p : zs.Perm ks) (h : zs.Pairwise (· ≤ ·)) : zs = srtI ks := sorted_one (p.trans (srtI_perm ks).symm) h (srtI_asc ks)
theorem keyAt_get {ks : List Int} {i : Nat} (h : i < ks.length) : keyAt ks i = ks[i] := by
  unfold keyAt
  rw [List.getD_eq_getElem?_getD, List.getElem?_eq_getElem h]
  rfl
theorem keyAt_of {ks : List Int} {z : Int} (h : z ∈ ks) : ∃ i, i < ks.length ∧ keyAt ks i = z := by
  obtain ⟨i, hi, e⟩ := List.getElem_of_mem h
  exact ⟨i, hi, (keyAt_get hi).trans e⟩
theorem cnt_point (x : Int) : ∀ (a b : List Int), a.length = b.length → (∀ i, i < a.length → keyAt a i ≤ keyAt b i) → b.countP (fun z => decide (z ≤ x)) ≤ a.countP (fun z => decide (z ≤ x))
  | [], [], _, _ => Nat.le_refl _
  | [], _ :: _, h, _ => by cases h
  | _ :: _, [], h, _ => by cases h
  | u :: a, v :: b, h, k => by
    have ih := cnt_point x a b (Nat.succ.inj h) fun i hi => k (i + 1) (Nat.succ_lt_succ hi)
    have k0 : u ≤ v := k 0 (Nat.succ_pos _)
    rw [List.countP_cons, List.countP_cons]
    by_cases c : v ≤ x
    · rw [if_pos (decide_eq_true c), if_pos (decide_eq_true (show u ≤ x by omega))]
      omega
    · rw [if_neg (by rw [decide_eq_true_eq]; exact c)]
      omega
theorem cnt_lo {s : List Int} {i : Nat} (h : s.Pairwise (· ≤ ·)) (hi : i < s.length) : i + 1 ≤ s.countP (fun z => decide (z ≤ keyAt s i)) := by
  obtain ⟨x, hx⟩ : ∃ x, x = keyAt s i := ⟨_, rfl⟩
  rw [← hx]
  conv => rhs; rw [← List.take_append_drop (i + 1) s]
  rw [List.countP_append]
  have : (s.take (i + 1)).countP (fun z => decide (z ≤ x)) = (s.take (i + 1)).length := List.countP_eq_length.mpr fun z hz => by
    obtain ⟨j, hj, e⟩ := List.getElem_of_mem hz
    rw [List.length_take] at hj
    rw [List.getElem_take] at e
    rw [decide_eq_true_eq, hx, keyAt_get hi, ← e]
    by_cases c : j = i
    · subst c
      exact Int.le_refl _
    · exact List.pairwise_iff_getElem.mp h j i (by omega) hi (by omega)
  rw [this, List.length_take]
  omega
theorem cnt_hi {s : List Int} {i : Nat} {x : Int} (h : s.Pairwise (· ≤ ·)) (hi : i < s.length) (hx : x < keyAt s i) : s.countP (fun z => decide (z ≤ x)) ≤ i := by
  conv => lhs; rw [← List.take_append_drop i s]
  rw [List.countP_append]
  have : (s.drop i).countP (fun z => decide (z ≤ x)) = 0 := List.countP_eq_zero.mpr fun z hz => by
    obtain ⟨j, hj, e⟩ := List.getElem_of_mem hz
    rw [List.length_drop] at hj
    rw [List.getElem_drop] at e
    rw [decide_eq_true_eq, ← e]
    rw [keyAt_get hi] at hx
    by_cases c : j = 0
    · subst c
      show ¬ s[i + 0] ≤ x
      have e0 : s[i + 0] = s[i] := rfl
      omega
    · have := List.pairwise_iff_getElem.mp h i (i + j) hi (by omega) (by omega)
      omega
  rw [this]
  have := List.countP_le_length (p := fun z => decide (z ≤ x)) (l := s.take i)
  rw [List.length_take] at this
  omega
theorem srt_le {a b : List Int} (hl : a.length = b.length) (h : ∀ i, i < a.length → keyAt a i ≤ keyAt b i) {i : Nat} (hi : i < a.length) : keyAt (srtI a) i ≤ keyAt (srtI b) i := by
  refine Int.not_lt.mp fun z => ?_
  have h1 := cnt_lo (srtI_asc b) (i := i) (by rw [srtI_len]; omega)
  have h2 := cnt_hi (srtI_asc a) (i := i) (by rw [srtI_len]; exact hi) z
  have h3 := cnt_point (keyAt (srtI b) i) a b hl h
  rw [(srtI_perm b).countP_eq] at h1
  rw [(srtI_perm a).countP_eq] at h2
  omega
theorem take_iff {s t : List Int} {c : Nat} (h : s.length = t.length) : s.take c = t.take c ↔ ∀ i, i < c → i < s.length → keyAt s i = keyAt t i := by
  refine ⟨fun e i hc hi => ?_, fun e => ?_⟩
  · have z := congrArg (fun l => l[i]?) e
    have z : (s.take c)[i]? = (t.take c)[i]? := z
    rw [List.getElem?_take_of_lt hc, List.getElem?_take_of_lt hc] at z
    unfold keyAt
    rw [List.getD_eq_getElem?_getD, List.getD_eq_getElem?_getD, z]
  · refine List.ext_getElem? fun i => ?_
    by_cases hc : i < c
    · rw [List.getElem?_take_of_lt hc, List.getElem?_take_of_lt hc]
      by_cases hi : i < s.length
      · have z := e i hc hi
        rw [keyAt_get hi, keyAt_get (by omega)] at z
        rw [List.getElem?_eq_getElem hi, List.getElem?_eq_getElem (by omega), z]
      · rw [List.getElem?_eq_none (by omega), List.getElem?_eq_none (by omega)]
    · rw [List.getElem?_eq_none (by rw [List.length_take]; omega), List.getElem?_eq_none (by rw [List.length_take]; omega)]
/-- a full heap within the bounds, alike at the places -/
structure Agr (n w : Nat) (P : List Nat) (ks late : List Int) : Prop where
  len : late.length = n
  bd : ∀ z ∈ late, -1000000000 ≤ z ∧ z ≤ 1000000000
  hp : HeapL n w late
  at' : ∀ p ∈ P, keyAt late p = keyAt ks p
/-- the least of them -/
structure IsLs (n w : Nat) (P : List Nat) (ks L : List Int) : Prop where
  len : L.length = n
  eq : ∀ i, i < n → (i ∈ P → keyAt L i = keyAt ks i) ∧ (i ∉ P → i = 0 → keyAt L i = -1000000000) ∧ (i ∉ P → 0 < i → keyAt L i = keyAt L ((i - 1) / w))
theorem par_lt {w i : Nat} (h : 0 < i) : (i - 1) / w < i := by
  have := Nat.div_le_self (i - 1) w
  omega
theorem ls_le {n w : Nat} {P : List Nat} {ks L late : List Int} (h : IsLs n w P ks L) (a : Agr n w P ks late) : ∀ (m i : Nat), i < m → i < n → keyAt L i ≤ keyAt late i
  | 0, _, hm, _ => by omega
  | m + 1, i, hm, hi => by
    obtain ⟨h1, h2, h3⟩ := h.eq i hi
    by_cases c : i ∈ P
    · rw [h1 c, a.at' i c]
      exact Int.le_refl _
    · by_cases c0 : i = 0
      · rw [h2 c c0]
        exact (a.bd _ (keyAt_mem (by rw [a.len]; exact hi))).1
      · have hp := par_lt (w := w) (i := i) (by omega)
        rw [h3 c (by omega)]
        exact Int.le_trans (ls_le h a m _ (by omega) (by omega)) (a.hp i (by omega) hi)
theorem ls_near {n w : Nat} {P : List Nat} {ks L : List Int} (h : IsLs n w P ks L) (hk : ks.length = n) : ∀ (m i : Nat), i < m → i < n → keyAt L i = -1000000000 ∨ keyAt L i ∈ ks
  | 0, _, hm, _ => by omega
  | m + 1, i, hm, hi => by
    obtain ⟨h1, h2, h3⟩ := h.eq i hi
    by_cases c : i ∈ P
    · rw [h1 c]
      exact .inr (keyAt_mem (by omega))
    · by_cases c0 : i = 0
      · exact .inl (h2 c c0)
      · have hp := par_lt (w := w) (i := i) (by omega)
        rw [h3 c (by omega)]
        exact ls_near h hk m _ (by omega) (by omega)
theorem ls_agr {n w : Nat} {P : List Nat} {ks L : List Int} (h : IsLs n w P ks L) (a : Agr n w P ks ks) (hP : ∀ p ∈ P, p < n) : Agr n w P ks L := by
  refine ⟨h.len, fun z hz => ?_, fun i h1 hi => ?_, fun p hp => (h.eq p (hP p hp)).1 hp⟩
  · obtain ⟨i, hi, rfl⟩ := keyAt_of hz
    rcases ls_near h a.len (i + 1) i (Nat.lt_succ_self _) (by have := h.len; omega) with e | e
    · rw [e]
      omega
    · exact a.bd _ e
  · obtain ⟨h1', h2, h3⟩ := h.eq i hi
    have hp := par_lt (w := w) (i := i) (by omega)
    by_cases c : i ∈ P
    · rw [h1' c]
      exact Int.le_trans (ls_le h a _ _ (Nat.lt_succ_self _) (by omega)) (a.hp i h1 hi)
    · rw [h3 c (by omega)]
      exact Int.le_refl _
/-- the greatest of them -/
structure IsGs (n w : Nat) (P : List Nat) (ks G : List Int) : Prop where
  len : G.length = n
  eq : ∀ i, i < n → (i ∈ P → keyAt G i = keyAt ks i) ∧ (i ∉ P → kidL n w i = [] → keyAt G i = 1000000000) ∧ (i ∉ P → kidL n w i ≠ [] → (∃ c ∈ kidL n w i, keyAt G i = keyAt G c) ∧ ∀ c ∈ kidL n w i, keyAt G i ≤ keyAt G c)
theorem kid_gt {n w i c : Nat} (hw : 1 ≤ w) (h : c ∈ kidL n w i) : i < c ∧ c < n ∧ 1 ≤ c ∧ (c - 1) / w = i := by
  obtain ⟨h1, h2, h3⟩ := mem_kidL.mp h
  have := par_lt (w := w) h1
  omega
theorem gs_ge {n w : Nat} {P : List Nat} {ks G late : List Int} (hw : 1 ≤ w) (h : IsGs n w P ks G) (a : Agr n w P ks late) : ∀ (m i : Nat), n < i + m → i < n → keyAt late i ≤ keyAt G i
  | 0, _, hm, _ => by omega
  | m + 1, i, hm, hi => by
    obtain ⟨h1, h2, h3⟩ := h.eq i hi
    by_cases c : i ∈ P
    · rw [h1 c, a.at' i c]
      exact Int.le_refl _
    · by_cases c0 : kidL n w i = []
      · rw [h2 c c0]
        exact (a.bd _ (keyAt_mem (by rw [a.len]; exact hi))).2
      · obtain ⟨⟨k, hk, e⟩, _⟩ := h3 c c0
        obtain ⟨g1, g2, g3, g4⟩ := kid_gt hw hk
        rw [e]
        have := a.hp k g3 g2
        rw [g4] at this
        exact Int.le_trans this (gs_ge hw h a m k (by omega) g2)
theorem gs_near {n w : Nat} {P : List Nat} {ks G : List Int} (hw : 1 ≤ w) (h : IsGs n w P ks G) (hk : ks.length = n) : ∀ (m i : Nat), n < i + m → i < n → keyAt G i = 1000000000 ∨ keyAt G i ∈ ks
  | 0, _, hm, _ => by omega
  | m + 1, i, hm, hi => by
    obtain ⟨h1, h2, h3⟩ := h.eq i hi
    by_cases c : i ∈ P
    · rw [h1 c]
      exact .inr (keyAt_mem (by omega))
    · by_cases c0 : kidL n w i = []
      · exact .inl (h2 c c0)
      · obtain ⟨⟨k, hk', e⟩, _⟩ := h3 c c0
        obtain ⟨g1, g2, g3, g4⟩ := kid_gt hw hk'
        rw [e]
        exact gs_near hw h hk m k (by omega) g2
theorem gs_agr {n w : Nat} {P : List Nat} {ks G : List Int} (hw : 1 ≤ w) (h : IsGs n w P ks G) (a : Agr n w P ks ks) (hP : ∀ p ∈ P, p < n) : Agr n w P ks G := by
  refine ⟨h.len, fun z hz => ?_, fun i h1 hi => ?_, fun p hp => (h.eq p (hP p hp)).1 hp⟩
  · obtain ⟨i, hi, rfl⟩ := keyAt_of hz
    have hl := h.len
    rcases gs_near hw h a.len (n + 1) i (by omega) (by omega) with e | e
    · rw [e]
      omega
    · exact a.bd _ e
  · have hp := par_lt (w := w) (i := i) (by omega)
    have hk : i ∈ kidL n w ((i - 1) / w) := mem_kidL.mpr ⟨by omega, hi, rfl⟩
    obtain ⟨h1', h2, h3⟩ := h.eq ((i - 1) / w) (by omega)
    by_cases c : (i - 1) / w ∈ P
    · rw [h1' c]
      exact Int.le_trans (a.hp i h1 hi) (gs_ge hw h a (n + 1) i (by omega) hi)
    · exact (h3 c (List.ne_nil_of_mem hk)).2 i hk
/-- all of them have the same least keys -/
def Settles (n w : Nat) (P : List Nat) (ks : List Int) (c : Nat) : Prop := ∀ late, Agr n w P ks late → (srtI late).take c = (srtI ks).take c
theorem settles_of {n w c : Nat} {P : List Nat} {ks L G : List Int} (hw : 1 ≤ w) (hk : ks.length = n) (hL : IsLs n w P ks L) (hG : IsGs n w P ks G) (eL : (srtI L).take c = (srtI ks).take c) (eG : (srtI G).take c = (srtI ks).take c) : Settles n w P ks c := fun late a => by
  have ll := hL.len
  have lg := hG.len
  have la := a.len
  rw [take_iff (by rw [srtI_len, srtI_len]; omega)] at eL eG ⊢
  intro i hc hi
  rw [srtI_len] at hi
  have z1 := srt_le (a := L) (b := late) (by omega) (fun j hj => ls_le hL a _ j (Nat.lt_succ_self _) (by omega)) (i := i) (by omega)
  have z2 := srt_le (a := late) (b := G) (by omega) (fun j hj => gs_ge hw hG a (n + 1) j (by omega) (by omega)) (i := i) (by omega)
  rw [eL i hc (by rw [srtI_len]; omega)] at z1
  rw [eG i hc (by rw [srtI_len]; omega)] at z2
  omega

end
end Tw

set_option Elab.async false
set_option linter.all false
set_option maxRecDepth 100000
set_option maxHeartbeats 2000000
namespace Tw
open PySem PySem.Spec PyProof.Rows L2
section
variable {P : Program} {w : World} {K : PySem.W.Frag} {mg : Str → Option Value} {base : Heap} {A : Ad}
open LamX (ExtN Tabs TabS)
/-- a list or a tuple -/
def Sq (H : Hp) (a : Addr) (xs : List V) : Prop := H a = some (.lst xs) ∨ H a = some (.tup xs)
def RowIn (H : Hp) (a : Addr) (ns : List Int) : Prop := Sq H a (ns.map V.int) ∧ ns.length ≤ 12 ∧ (∀ n ∈ ns, -1000000000 ≤ n ∧ n ≤ 1000000000)
/-- the faults of a row -/
def faultB (ns : List Int) (w p : Nat) : Bool := decide (0 < p) && decide (ns.getD p 0 < ns.getD ((p - 1) / w) 0)
def faultL (ns : List Int) (w : Nat) : List Nat := (List.range ns.length).filter (faultB ns w)
structure HpC (H : Hp) (r c w : Nat) (ks : List Int) : Prop where
  hw : 1 ≤ w ∧ w ≤ 4
  row : RowIn H r ks
  flt : faultL ks w = []
  hc : c ≤ ks.length
/-- a set of places, ascending -/
structure PSet2 (n : Nat) (s : List Nat) : Prop where
  up : ∀ p ∈ s, p < n
  asc : s.Pairwise (· < ·)
  len : s.length ≤ 12
/-- the places of a tree -/
def pl (n : Nat) : List V := (List.range n).map fun i => V.int (i : Nat)
/-- its attributes -/
def tf (n w t : Nat) : List (Str × V) := putF "_places" (.ref t) (putF "arms" (.int w) (putF "many" (.int n) []))
/-- a tree of n places and w arms stands at p -/
structure TreeAt (C : Addr) (H : Hp) (p n w : Nat) : Prop where
  ob : ∃ dx t, H p = some (.ins C dx (tf n w t)) ∧ H t = some (.tup (pl n))
  hn : n ≤ 12
  hw : 1 ≤ w ∧ w ≤ 4
theorem b_chp (T : Tx K mg A) : L2.Binds K A.d_counted_heap_of ["row", "count", "arms"] [] := T.F_counted_heap_of.binds fun _ _ _ _ _ _ us hl => match us, hl with | [_, _, _], _ => rfl
theorem b_isp (T : Tx K mg A) : L2.Binds K A.d_is_set_of_places ["thing", "many"] [] := T.F_is_set_of_places.binds fun _ _ _ _ _ _ us hl => match us, hl with | [_, _], _ => rfl
theorem b_iter (T : Tx K mg A) : L2.Binds K A.d_t___iter__ ["self"] [] := T.F_t___iter__.binds fun _ _ _ _ _ _ us hl => match us, hl with | [_], _ => rfl
theorem b_par (T : Tx K mg A) : L2.Binds K A.d_t_parent ["self", "place"] [] := T.F_t_parent.binds fun _ _ _ _ _ _ us hl => match us, hl with | [_, _], _ => rfl
theorem cst {x : Str} {n : Int} (h : mg x = some (.int n 0) ∨ ∃ t, mg x = some (.int n t)) : ∃ t, mg x = some (.int n t) := h.elim (fun e => ⟨0, e⟩) id
def upF : Nat → Nat → Nat → List Nat
  | 0, _, p => [p]
  | k + 1, w, p => if p = 0 then [0] else p :: upF k w ((p - 1) / w)
def upL (w p : Nat) : List Nat := upF 13 w p
def wayL (w p : Nat) : List Nat := (upL w p).reverse
theorem up_eq : ∀ w, w < 5 → ∀ p, p < 13 → 1 ≤ w → upL w p = if p = 0 then [0] else p :: upL w ((p - 1) / w) := by decide +kernel
theorem way_rec (w p : Nat) (hw : 1 ≤ w ∧ w ≤ 4) (hp : p ≤ 12) (h0 : 0 < p) : wayL w p = wayL w ((p - 1) / w) ++ [p] := by
  unfold wayL
  have e := up_eq w (by omega) p (by omega) hw.1
  rw [if_neg (by omega)] at e
  rw [e, List.reverse_cons]
theorem way_zero : ∀ w, w < 5 → 1 ≤ w → wayL w 0 = [0] := by decide +kernel
theorem no_fault {ns : List Int} {w : Nat} (hw : 1 ≤ w ∧ w ≤ 4) (hn : ns.length ≤ 12) (h : faultL ns w = []) : ∀ p, p < ns.length → ∀ q ∈ wayL w p, ns.getD q 0 ≤ ns.getD p 0 := by
  have h1 : ∀ p, p < ns.length → 0 < p → ns.getD ((p - 1) / w) 0 ≤ ns.getD p 0 := fun p hp h0 => by
    refine Int.not_lt.mp fun z => ?_
    have m : p ∈ faultL ns w := by
      unfold faultL
      refine List.mem_filter.mpr ⟨List.mem_range.mpr hp, ?_⟩
      unfold faultB
      rw [decide_eq_true h0, decide_eq_true z]
      rfl
    rw [h] at m
    cases m
  intro p
  induction p using Nat.strongRecOn with
  | _ p ih =>
    intro hp q hq
    by_cases h0 : 0 < p
    · have hlt : (p - 1) / w < p := Nat.lt_of_le_of_lt (Nat.div_le_self _ _) (by omega)
      rw [way_rec w p hw (by omega) h0] at hq
      rcases List.mem_append.mp hq with hq | hq
      · exact Int.le_trans (ih _ hlt (by omega) q hq) (h1 p hp h0)
      · rw [List.mem_singleton.mp hq]
        exact Int.le_refl _
    · obtain rfl : p = 0 := by omega
      rw [way_zero w (by omega) hw.1] at hq
      rw [List.mem_singleton.mp hq]
      exact Int.le_refl _
theorem self_sub : ∀ w, w < 5 → ∀ i, i < 13 → 1 ≤ w → i ∈ wayL w i := by decide +kernel
theorem fault_heap {n w : Nat} {ks : List Int} (hw : 1 ≤ w ∧ w ≤ 4) (hn : n ≤ 12) (hl : ks.length = n) (h : faultL ks w = []) : HeapL n w ks := fun c h1 h2 => by
  refine no_fault hw (by omega) h c (by omega) _ ?_
  rw [way_rec w c hw (by omega) h1]
  exact List.mem_append_left _ (self_sub w (by omega) _ (by have := Nat.div_le_self (c - 1) w; omega) hw.1)
def natB (p : List Nat) : List Int := p.map fun x => Int.ofNat x
abbrev nv (p : List Nat) : List V := (natB p).map V.int
theorem inV_nv (m : Nat) : ∀ p : List Nat, inV (V.int (m : Nat)) (nv p) = decide (m ∈ p)
  | [] => by simp [inV, nv, natB]
  | a :: p => by
    have ih := inV_nv m p
    unfold inV at ih ⊢
    show (eqV (V.int (Int.ofNat a)) (V.int (m : Nat)) || (nv p).any fun y => eqV y (V.int (m : Nat))) = _
    rw [ih]
    by_cases h : m = a
    · subst h
      rw [show eqV (V.int (Int.ofNat m)) (V.int (m : Nat)) = true from decide_eq_true rfl, Bool.true_or, decide_eq_true List.mem_cons_self]
    · rw [show eqV (V.int (Int.ofNat a)) (V.int (m : Nat)) = false from decide_eq_false (fun z => h (by have : (Int.ofNat a) = Int.ofNat m := z; exact (Int.ofNat.inj this).symm)), Bool.false_or]
      exact decide_eq_decide.mpr ⟨fun z => List.mem_cons_of_mem _ z, fun z => (List.mem_cons.mp z).resolve_left h⟩
theorem kb_of (T : Tx K mg A) : ∃ mv : List Value, KBn K A.d_t_of ["cls", "row", "arms"] 2 ["arms"] (fun us ws => us ++ (mv ++ ws)) (fun vs zs => vs ++ zs) := by
  obtain ⟨mv, h⟩ := T.F_t_of.kbinds0 (ps := ["cls", "row", "arms"]) 2 ["arms"] [] (fun us mv ws => us ++ (mv ++ ws)) (by simp) (by simp) (fun r1 r2 r3 => r1.append (r2.append r3))
    (fun D doc pm an cdv ct us mv ws h1 h2 h3 => by
      match us, mv, ws, h1, h2, h3 with
      | [a, b], [], [c], _, _, _ => rfl)
  exact ⟨mv, h⟩
theorem keyAt_snoc (ks : List Int) (x : Int) (c : Nat) : keyAt (ks ++ [x]) c = if c < ks.length then keyAt ks c else if c = ks.length then x else 0 := by
  unfold keyAt
  rw [List.getD_eq_getElem?_getD, List.getD_eq_getElem?_getD]
  by_cases h : c < ks.length
  · rw [if_pos h, List.getElem?_append_left h]
  · rw [if_neg h, List.getElem?_append_right (by omega)]
    by_cases h2 : c = ks.length
    · rw [if_pos h2, h2, Nat.sub_self]
      rfl
    · rw [if_neg h2, show c - ks.length = (c - ks.length - 1) + 1 by omega]
      rfl
theorem map_one (l : List Int) (x : Int) : l.map V.int ++ [V.int x] = (l ++ [x]).map V.int := by rw [List.map_append]; rfl
theorem nv_at {p : List Nat} {i : Nat} {x : V} (h : (nv p)[i]? = some x) : ∃ hi : i < p.length, x = V.int (p[i] : Nat) := by
  unfold nv natB at h
  rw [List.getElem?_map, List.getElem?_map] at h
  cases e : p[i]? with
  | none =>
    rw [e] at h
    cases h
  | some u =>
    rw [e] at h
    obtain ⟨hi, rfl⟩ := List.getElem?_eq_some_iff.mp e
    exact ⟨hi, (Option.some.inj h).symm⟩
theorem nv_flat : ∀ p : List Nat, (nv p).all flatV = true
  | [] => rfl
  | a :: p => by
    show (flatV (V.int (Int.ofNat a)) && (nv p).all flatV) = true
    rw [nv_flat p]
    rfl
theorem nv_len (p : List Nat) : (nv p).length = p.length := by
  unfold nv natB
  rw [List.length_map, List.length_map]
theorem b_cc (T : Tx K mg A) : L2.Binds K A.d_check_count ["count", "many"] [] := T.F_check_count.binds fun _ _ _ _ _ _ us hl => match us, hl with | [_, _], _ => rfl
theorem b_hp (T : Tx K mg A) : L2.Binds K A.d_heap_of ["row", "arms"] [] := T.F_heap_of.binds fun _ _ _ _ _ _ us hl => match us, hl with | [_, _], _ => rfl
/-- True just for ints -/
def spIs (K : PySem.W.Frag) : Sp := fun vs H Q _ => ∃ x : V, vs = [x] ∧
  ((∃ i, x = .int i ∧ Q (.bl true) H) ∨ (∃ n b1 b2, TyX K H x (.type n) ∧ kitB n "int" = some b1 ∧ kitB n "bool" = some b2 ∧ (b1 && !b2) = false ∧ Q (.bl false) H))
theorem ok_is (T : Tx K mg A) : FnOk P w K mg base CX0 1 A.f_is_integer A.d_is_integer ["thing"] (spIs K) := by
  refine T.F_is_integer.ok sc_is_integer (fun vs H Q E h => ?_) (fun cdv B outer s H vs Q E hr h => ?_)
  · obtain ⟨x, rfl, _⟩ := h
    rfl
  · obtain ⟨x, rfl, h⟩ := h
    refine ⟨_, pss_one (ps_ret (pe_and (pe_callB call_isi (by rfl) T.g_isinstance (by decide +kernel) (pa_cons (pv 0) (pa_cons (pe_bltn (v := .ty "int") (by rfl) T.g_int (by decide +kernel) rfl) pa_nil)))
      (pe_one (pe_not (pe_callB call_isi (by rfl) T.g_isinstance (by decide +kernel) (pa_cons (pv 0) (pa_cons (pe_bltn (v := .ty "bool") (by rfl) T.g_bool (by decide +kernel) rfl) pa_nil))))))), ?_⟩
    rcases h with ⟨i, rfl, q⟩ | ⟨n, b1, b2, ty, k1, k2, hb, q⟩
    · refine ⟨_, rfl, _, _, .type "int", .type "int", true, rfl, .ty "int", .base (.int i), kit_ty (by decide +kernel), true, rfl, iteT ?_⟩
      exact ⟨_, rfl, _, _, .type "int", .type "bool", false, rfl, .ty "bool", .base (.int i), kit_ty (by decide +kernel), false, rfl, q⟩
    · refine ⟨_, rfl, _, _, .type n, .type "int", b1, rfl, .ty "int", ty, kit_ty k1, b1, rfl, ?_⟩
      cases b1 with
      | false => exact iteF q
      | true =>
        cases b2 with
        | false => cases hb
        | true => exact iteT ⟨_, rfl, _, _, .type n, .type "bool", true, rfl, .ty "bool", ty, kit_ty k2, true, rfl, q⟩
theorem b_is (T : Tx K mg A) : L2.Binds K A.d_is_integer ["thing"] [] := T.F_is_integer.binds fun _ _ _ _ _ _ us hl => match us, hl with | [_], _ => rfl
/-- True just for ints within; other things by their class -/
def spII (K : PySem.W.Frag) : Sp := fun vs H Q _ => ∃ (x : V) (a b : Int), vs = [x, .int a, .int b] ∧
  ((∃ i, x = .int i ∧ Q (.bl (decide (a ≤ i ∧ i ≤ b))) H) ∨ (∃ n b1 b2, TyX K H x (.type n) ∧ kitB n "int" = some b1 ∧ kitB n "bool" = some b2 ∧ (b1 && !b2) = false ∧ Q (.bl false) H))
theorem ok_ii (T : Tx K mg A) : FnOk P w K mg base CX0 2 A.f_is_integer_from A.d_is_integer_from ["thing", "least", "greatest"] (spII K) := by
  refine T.F_is_integer_from.ok sc_is_integer_from (fun vs H Q E h => ?_) (fun cdv B outer s H vs Q E hr h => ?_)
  · obtain ⟨x, a, b, rfl, _⟩ := h
    rfl
  · obtain ⟨x, a, b, rfl, h⟩ := h
    refine ⟨_, pss_one (ps_ret (pe_and (pe_call (ok_is T) hr (by rfl) T.m_is_integer T.F_is_integer.kp (b_is T) .nil pass0 (pa_cons (pv 0) pa_nil))
        (pe_one (pe_chain op_le op_le (pv 1) (pv 0) (pv 2))))), ?_⟩
    rcases h with ⟨i, rfl, q⟩ | h
    · refine ⟨_, rfl, _, rfl, .inl ⟨i, rfl, true, rfl, iteT ?_⟩⟩
      refine ⟨_, rfl, _, rfl, _, _, rfl, rfl, _, rfl, ?_⟩
      by_cases h1 : a ≤ i
      · rw [decide_eq_true h1]
        refine iteT ⟨_, rfl, _, _, rfl, rfl, ?_⟩
        have e : decide (a ≤ i ∧ i ≤ b) = decide (i ≤ b) := by simp [h1]
        rw [e] at q
        exact q
      · rw [decide_eq_false h1]
        have e : decide (a ≤ i ∧ i ≤ b) = false := by simp [h1]
        rw [e] at q
        exact iteF q
    · obtain ⟨n, b1, b2, ty, k1, k2, hb, q⟩ := h
      exact ⟨_, rfl, _, rfl, .inr ⟨n, b1, b2, ty, k1, k2, hb, false, rfl, iteF q⟩⟩
theorem b_ii (T : Tx K mg A) : L2.Binds K A.d_is_integer_from ["thing", "least", "greatest"] [] := T.F_is_integer_from.binds fun _ _ _ _ _ _ us hl => match us, hl with | [_, _, _], _ => rfl
def spCc : Sp := fun vs H Q _ => ∃ i n : Nat, vs = [.int i, .int n] ∧ i ≤ n ∧ Q .non H
theorem ok_cc (T : Tx K mg A) : FnOk P w K mg base CX0 3 A.f_check_count A.d_check_count ["count", "many"] spCc := by
  refine T.F_check_count.ok sc_check_count (fun vs H Q E h => ?_) (fun cdv B outer s H vs Q E hr h => ?_)
  · obtain ⟨i, n, rfl, _⟩ := h
    rfl
  · obtain ⟨i, n, rfl, hi, q⟩ := h
    refine ⟨_, (pss_one (ps_if (pt_not (pt_val (pe_call (ok_ii T) (hr.mono (by decide)) (by rfl) T.m_is_integer_from T.F_is_integer_from.kp (b_ii T) .nil pass0 (pa_cons (pv 0) (pa_cons pe_int (pa_cons (pv 1) pa_nil)))))) (pss_one ps_never) pss_nil)), ?_⟩
    refine ⟨_, rfl, _, rfl, _, _, _, rfl, .inl ⟨i, rfl, _, rfl, ?_⟩⟩
    rw [decide_eq_true (show (0 : Int) ≤ (i : Nat) ∧ ((i : Nat) : Int) ≤ (n : Nat) by omega)]
    exact iteF q
def vi (l : List Nat) : List V := l.map fun i => V.int (i : Nat)
theorem Sq.same {H H' : Hp} {a : Addr} {xs : List V} (h : Sq H a xs) (s : Same H H') : Sq H' a xs := h.elim (fun e => .inl (s _ _ e)) fun e => .inr (s _ _ e)
theorem TreeAt.same {C : Addr} {H H' : Hp} {p n w : Nat} (h : TreeAt C H p n w) (s : Same H H') : TreeAt C H' p n w :=
  ⟨let ⟨dx, t, a, b⟩ := h.ob; ⟨dx, t, s _ _ a, s _ _ b⟩, h.hn, h.hw⟩
theorem RowIn.same {H H' : Hp} {a : Addr} {ns : List Int} (h : RowIn H a ns) (s : Same H H') : RowIn H' a ns := ⟨h.1.same s, h.2⟩
theorem pl_len (n : Nat) : (pl n).length = n := by unfold pl; rw [List.length_map, List.length_range]
theorem tf_pl (n w t : Nat) : (tf n w t).lookup ("_places" : Str) = some (.ref t) := by
  unfold tf
  rw [lookup_putF, if_pos rfl]
theorem tf_no (n w t : Nat) {m : Str} (h1 : ¬ m = "many") (h2 : ¬ m = "arms") (h3 : ¬ m = "_places") : (tf n w t).lookup m = none := by
  unfold tf
  rw [lookup_putF, if_neg h3, lookup_putF, if_neg h2, lookup_putF, if_neg h1]
  rfl
theorem kb_init (T : Tx K mg A) : ∃ mv : List Value, KBn K A.d_t___init__ ["self", "many", "arms"] 2 ["arms"] (fun us ws => us ++ (mv ++ ws)) (fun vs zs => vs ++ zs) := by
  obtain ⟨mv, h⟩ := T.F_t___init__.kbinds0 (ps := ["self", "many", "arms"]) 2 ["arms"] [] (fun us mv ws => us ++ (mv ++ ws)) (by simp) (by simp) (fun r1 r2 r3 => r1.append (r2.append r3))
    (fun D doc pm an cdv ct us mv ws h1 h2 h3 => by
      match us, mv, ws, h1, h2, h3 with
      | [a, b], [], [c], _, _, _ => rfl)
  exact ⟨mv, h⟩
def spCa : Sp := fun vs H Q _ => ∃ i : Int, vs = [.int i] ∧ (1 ≤ i ∧ i ≤ 4) ∧ Q .non H
theorem ok_ca (T : Tx K mg A) : FnOk P w K mg base CX0 3 A.f_check_arms A.d_check_arms ["arms"] spCa := by
  refine T.F_check_arms.ok sc_check_arms (fun vs H Q E h => ?_) (fun cdv B outer s H vs Q E hr h => ?_)
  · obtain ⟨i, rfl, _⟩ := h
    rfl
  · obtain ⟨i, rfl, hi, q⟩ := h
    obtain ⟨t, hg⟩ := cst T.c_MOST_ARMS
    refine ⟨_, pss_one (ps_if (pt_not (pt_val (pe_call (ok_ii T) hr (by rfl) T.m_is_integer_from T.F_is_integer_from.kp (b_ii T) .nil pass0
      (pa_cons (pv 0) (pa_cons pe_int (pa_cons (pe_glob (by rfl) hg (relI _ _)) pa_nil)))))) (pss_one ps_never) pss_nil), ?_⟩
    refine ⟨_, rfl, _, _, _, rfl, .inl ⟨i, rfl, _, rfl, ?_⟩⟩
    rw [decide_eq_true hi]
    exact iteF q
theorem b_ca (T : Tx K mg A) : L2.Binds K A.d_check_arms ["arms"] [] := T.F_check_arms.binds fun _ _ _ _ _ _ us hl => match us, hl with | [_], _ => rfl
/-- is_key of an int -/
def spKey : Sp := fun vs H Q _ => ∃ i : Int, vs = [.int i] ∧ Q (.bl (decide (-1000000000 ≤ i ∧ i ≤ 1000000000))) H
theorem ok_key (T : Tx K mg A) : FnOk P w K mg base CX0 3 A.f_is_key A.d_is_key ["thing"] spKey := by
  refine T.F_is_key.ok sc_is_key (fun vs H Q E h => ?_) (fun cdv B outer s H vs Q E hr h => ?_)
  · obtain ⟨i, rfl, _⟩ := h
    rfl
  · obtain ⟨i, rfl, q⟩ := h
    obtain ⟨t, hg⟩ := cst T.c_GREATEST_KEY
    refine ⟨_, pss_one (ps_ret (pe_call (ok_ii T) hr (by rfl) T.m_is_integer_from T.F_is_integer_from.kp (b_ii T) .nil pass0
      (pa_cons (pv 0) (pa_cons (pe_un un_neg (pe_glob (by rfl) hg (relI _ _))) (pa_cons (pe_glob (by rfl) hg (relI _ _)) pa_nil))))), ?_⟩
    exact ⟨_, rfl, _, rfl, _, _, _, rfl, .inl ⟨i, rfl, q⟩⟩
theorem b_key (T : Tx K mg A) : L2.Binds K A.d_is_key ["thing"] [] := T.F_is_key.binds fun _ _ _ _ _ _ us hl => match us, hl with | [_], _ => rfl
theorem Sq.len {K : PySem.W.Frag} {H : Hp} {a : Addr} {xs : List V} (h : Sq H a xs) : SqL K H a xs ∨ SqT K H a xs := h.elim (fun e => .inl (SqL.of e)) fun e => .inr (SqT.of e)
/-- keys go in, a tuple of them comes out -/
def spRow (K : PySem.W.Frag) : Sp := fun vs H Q _ => ∃ (a : Addr) (ns : List Int), vs = [.ref a] ∧ Sq H a (ns.map V.int) ∧ ns.length ≤ 12 ∧ (∀ n ∈ ns, -1000000000 ≤ n ∧ n ≤ 1000000000) ∧
  ∀ H' p, Same H H' → H' p = some (.tup (ns.map V.int)) → Q (.ref p) H'
theorem ok_row (T : Tx K mg A) : FnOk P w K mg base CX0 4 A.f_row_of A.d_row_of ["row"] (spRow K) := by
  refine T.F_row_of.ok sc_row_of (fun vs H Q E h => ?_) (fun cdv B outer s H vs Q E hr h => ?_)
  · obtain ⟨a, ns, rfl, _⟩ := h
    rfl
  · obtain ⟨a, ns, rfl, ha, hl, hk, q⟩ := h
    obtain ⟨t, hg⟩ := cst T.c_MOST_PLACES
    refine ⟨_, pss_cons (ps_if (PW.pt (pw_or (pt_not (pt_val (pe_callB call_isiT (by rfl) T.g_isinstance (by decide +kernel) (pa_cons (pv 0) (pa_cons (pe_tup (pa_cons (pe_bltn (v := .ty "list") (by rfl) T.g_list (by decide +kernel) rfl) (pa_cons (pe_bltn (v := .ty "tuple") (by rfl) T.g_tuple (by decide +kernel) rfl) pa_nil))) pa_nil)))))
        (pw_or1 (pt_cmpR op_gt (pe_callB call_len_seq (by rfl) T.g_len PySem.boot_len (pa_cons (pv 0) pa_nil)) (pe_glob (by rfl) hg (relI _ _)) (nomark _))))) (pss_one ps_never) pss_nil)
      (C8.pss_cut (ps_for PassesOwn.never rfl (pi_enS (by rfl) T.g_enumerate (pa_cons (pv 0) pa_nil)) (pg_tup rfl (pgs_cons (pg_name (i := 1) sc_row_of.nd rfl (Or.inl rfl)) (pgs_cons (pg_name (i := 2) sc_row_of.nd rfl (Or.inl rfl)) pgs_nil)))
        (pss_one (ps_if (pt_not (pt_val (pe_call (ok_key T) hr (by rfl) T.m_is_key T.F_is_key.kp (b_key T) .nil pass0 (pa_cons (pv 2) pa_nil)))) (pss_one ps_never) pss_nil)))
      (pss_one (ps_ret (pe_callTy call_tuple_of (by rfl) T.g_tuple (by decide +kernel) (pa_cons (pv 0) pa_nil))))), ?_⟩
    refine ⟨_, rfl, by show 2 ≤ sizeLine; decide, fun tp htp => ?_⟩
    have ha1 : Sq (upd H tp (.tup [.ty "list", .ty "tuple"])) a (ns.map V.int) := ha.same (Same.up htp)
    have isi : ∃ c b1, TyX K (upd H tp (.tup [.ty "list", .ty "tuple"])) (.ref a) (.type c) ∧ PySem.W.kitOne K (.type c) (.type "list") = some b1 ∧ (b1 = false → PySem.W.kitOne K (.type c) (.type "tuple") = some true) := by
      rcases ha1 with h | h
      · exact ⟨"list", true, .base (.lst h), kit_ty (by decide +kernel), fun z => by cases z⟩
      · exact ⟨"tuple", false, .base (.tup h), kit_ty (by decide +kernel), fun _ => kit_ty (by decide +kernel)⟩
    obtain ⟨c, b1, ty, k1, k2⟩ := isi
    refine ⟨_, tp, _, .type c, [.type "list", .type "tuple"], true, rfl, upd_same, .cons (.ty _) (.cons (.ty _) .nil), ty, kitAny_cons k1 (fun z => kitAny_cons (k2 z) (fun z => by cases z) (fun _ => rfl)) (fun _ => rfl), true, rfl, ?_⟩
    refine iteF ⟨_, rfl, a, _, rfl, ha1.len, _, _, rfl, rfl, _, rfl, ite2 (fun z => ?_) (fun _ => ?_)⟩
    · exfalso
      rw [List.length_map] at z
      have := of_decide_eq_true z
      omega
    refine ⟨fun σ H' => ∃ z y, σ = [some (.ref a), z, y] ∧ Same H H', ?_, ?_⟩
    · rcases ha with ha | ha
      · refine ⟨_, rfl, a, _, rfl, .inl ⟨SqL.of ((Same.up htp) _ _ ha), for_it (walk_enum (xs := ns.map V.int)) (fun i σ H' => ∃ z y, σ = [some (.ref a), z, y] ∧ Same H H') ⟨none, none, rfl, Same.up htp⟩ (fun i σ H' _ ⟨_, _, _, s⟩ => SqL.of (s _ _ ha)) ?_ ?_⟩⟩
        · rintro i v σ H2 H3 hi ⟨z, y, rfl, s⟩ ⟨T', x, x2, rfl, hT, rfl, e1, e2⟩
          obtain ⟨hi', rfl⟩ := ints_at e2
          cases e1
          refine ⟨_, _, rfl, SqT.of upd_same, rfl, _, _, rfl, _, _, rfl, rfl, ?_⟩
          refine ⟨_, rfl, _, rfl, _, rfl, ?_⟩
          rw [decide_eq_true (hk _ (List.getElem_mem hi'))]
          exact iteF ⟨_, _, rfl, s.trans (Same.up hT)⟩
        · rintro σ H2 ⟨z, y, rfl, s⟩
          exact ⟨_, _, rfl, s⟩
      · refine ⟨_, rfl, a, _, rfl, .inr ⟨SqT.of ((Same.up htp) _ _ ha), for_it (walk_enumT (xs := ns.map V.int)) (fun i σ H' => ∃ z y, σ = [some (.ref a), z, y] ∧ Same H H') ⟨none, none, rfl, Same.up htp⟩ (fun i σ H' _ ⟨_, _, _, s⟩ => SqT.of (s _ _ ha)) ?_ ?_⟩⟩
        · rintro i v σ H2 H3 hi ⟨z, y, rfl, s⟩ ⟨T', x, x2, rfl, hT, rfl, e1, e2⟩
          obtain ⟨hi', rfl⟩ := ints_at e2
          cases e1
          refine ⟨_, _, rfl, SqT.of upd_same, rfl, _, _, rfl, _, _, rfl, rfl, ?_⟩
          refine ⟨_, rfl, _, rfl, _, rfl, ?_⟩
          rw [decide_eq_true (hk _ (List.getElem_mem hi'))]
          exact iteF ⟨_, _, rfl, s.trans (Same.up hT)⟩
        · rintro σ H2 ⟨z, y, rfl, s⟩
          exact ⟨_, _, rfl, s⟩
    · rintro σ H2 ⟨z, y, rfl, s⟩
      rcases ha with ha | ha
      · exact ⟨_, rfl, a, _, rfl, .inl ⟨SqL.of (s _ _ ha), fun p hp => q _ _ (s.trans (Same.up hp)) upd_same⟩⟩
      · exact ⟨_, rfl, a, _, rfl, .inr ⟨SqT.of (s _ _ ha), q _ _ s (s _ _ ha)⟩⟩
theorem b_row (T : Tx K mg A) : L2.Binds K A.d_row_of ["row"] [] := T.F_row_of.binds fun _ _ _ _ _ _ us hl => match us, hl with | [_], _ => rfl
theorem n1 : ¬ (("many" : Str) = "arms") := by decide +kernel
def spCm : Sp := fun vs H Q _ => ∃ i : Int, vs = [.int i] ∧ (0 ≤ i ∧ i ≤ 12) ∧ Q .non H
theorem ok_cm (T : Tx K mg A) : FnOk P w K mg base CX0 3 A.f_check_many A.d_check_many ["many"] spCm := by
  refine T.F_check_many.ok sc_check_many (fun vs H Q E h => ?_) (fun cdv B outer s H vs Q E hr h => ?_)
  · obtain ⟨i, rfl, _⟩ := h
    rfl
  · obtain ⟨i, rfl, hi, q⟩ := h
    obtain ⟨t, hg⟩ := cst T.c_MOST_PLACES
    refine ⟨_, pss_one (ps_if (pt_not (pt_val (pe_call (ok_ii T) hr (by rfl) T.m_is_integer_from T.F_is_integer_from.kp (b_ii T) .nil pass0
      (pa_cons (pv 0) (pa_cons pe_int (pa_cons (pe_glob (by rfl) hg (relI _ _)) pa_nil)))))) (pss_one ps_never) pss_nil), ?_⟩
    refine ⟨_, rfl, _, _, _, rfl, .inl ⟨i, rfl, _, rfl, ?_⟩⟩
    rw [decide_eq_true hi]
    exact iteF q
theorem b_cm (T : Tx K mg A) : L2.Binds K A.d_check_many ["many"] [] := T.F_check_many.binds fun _ _ _ _ _ _ us hl => match us, hl with | [_], _ => rfl
theorem rg_pl (n : Nat) : rgV 0 (n : Int) = pl n := by
  unfold rgV pl
  rw [show ((n : Int) - 0).toNat = n by omega]
  exact congrArg (fun f => (List.range n).map f) (funext fun i => by rw [Int.zero_add])
def spInit (C : Addr) : Sp := fun vs H Q _ => ∃ (p dx n w : Nat), vs = [.ref p, .int n, .int w] ∧ n ≤ 12 ∧ (1 ≤ w ∧ w ≤ 4) ∧ H p = some (.ins C dx []) ∧
  ∀ (H' : Hp), (∀ b o, H b = some o → b ≠ p → H' b = some o) → TreeAt C H' p n w → Q .non H'
theorem ok_init (T : Tx K mg A) : FnOk P w K mg base CX0 4 A.f_t___init__ A.d_t___init__ ["self", "many", "arms"] (spInit A.C) := by
  refine T.F_t___init__.ok sc_t___init__ (fun vs H Q E h => ?_) (fun cdv B outer s H vs Q E hr h => ?_)
  · obtain ⟨p, dx, n, w, rfl, _⟩ := h
    rfl
  · obtain ⟨p, dx, n, w, rfl, hn, hw, hp, q⟩ := h
    refine ⟨_, PSs.nox (pss_cons (ps_expr (pe_call (ok_ca T) hr (by rfl) T.m_check_arms T.F_check_arms.kp (b_ca T) .nil pass0 (pa_cons (pv 2) pa_nil)))
      (pss_cons (ps_expr (pe_call (ok_cm T) hr (by rfl) T.m_check_many T.F_check_many.kp (b_cm T) .nil pass0 (pa_cons (pv 1) pa_nil)))
      (pss_cons (ps_fld (pv 0) (pv 1) rfl) (pss_cons (ps_fld (pv 0) (pv 2) rfl)
      (pss_one (ps_fld (pv 0) (pe_tupRg rfl (by rfl) T.g_tuple (prg_1 (by rfl) T.g_range (pv 1))) rfl)))))), ?_⟩
    refine ⟨_, rfl, _, rfl, ⟨by omega, by omega⟩, _, rfl, _, rfl, ⟨by omega, by omega⟩, ?_⟩
    refine ⟨_, rfl, _, rfl, p, A.C, dx, _, rfl, hp, T.cT, T.nMany, (by show 0 < 1000; decide), ?_⟩
    refine ⟨_, rfl, _, rfl, p, A.C, dx, _, rfl, upd_same, T.cT, T.nArms, (by show 1 < 1000; decide), ?_⟩
    refine ⟨_, rfl, _, rfl, RgOk.of_le (by omega) (by omega) (by omega) (by omega), fun t ht => ?_⟩
    have npt : p ≠ t := fun z => by
      rw [z, upd_same] at ht
      cases ht
    refine ⟨_, rfl, p, A.C, dx, _, rfl, Eq.trans (upd_ne npt) upd_same, T.cT, T.nPl, (by simp only [putF, n1, if_false]; show 2 < 1000; decide), ?_⟩
    refine q _ (fun b o e hb => ?_) ⟨⟨dx, t, upd_same, ?_⟩, hn, hw⟩
    · have nbt : b ≠ t := ne_of_none (by rw [upd_ne hb, upd_ne hb]; exact e) ht
      rw [upd_ne hb, upd_ne nbt, upd_ne hb, upd_ne hb]
      exact e
    · rw [upd_ne npt.symm, upd_same, rg_pl]
def spOf (K : PySem.W.Frag) (C : Addr) : Sp := fun vs H Q _ => ∃ (a w : Nat) (ns : List Int), vs = [.ref C, .ref a, .int w] ∧ (1 ≤ w ∧ w ≤ 4) ∧ Sq H a (ns.map V.int) ∧ ns.length ≤ 12 ∧ (∀ n ∈ ns, -1000000000 ≤ n ∧ n ≤ 1000000000) ∧
  ∀ (H' : Hp) p, Same H H' → H p = none → TreeAt C H' p ns.length w → Q (.ref p) H'
theorem ok_of (T : Tx K mg A) : FnOk P w K mg base CX0 6 A.f_t_of A.d_t_of ["cls", "row", "arms"] (spOf K A.C) := by
  obtain ⟨mv, kb⟩ := kb_init T
  refine T.F_t_of.ok sc_t_of (fun vs H Q E h => ?_) (fun cdv B outer s H vs Q E hr h => ?_)
  · obtain ⟨a, w, ns, rfl, _⟩ := h
    rfl
  · obtain ⟨a, w, ns, rfl, hw, ha, hl, hk, q⟩ := h
    refine ⟨_, PSs.nox (pss_cons (ps_expr (pe_call (ok_ca T) (hr.mono (by decide)) (by rfl) T.m_check_arms T.F_check_arms.kp (b_ca T) .nil pass0 (pa_cons (pv 2) pa_nil)))
      (pss_one (ps_ret (pe_makeLK (i := 0) T.mkC (ok_init T) hr kb pass0 (pa_cons (pe_callB call_len_seq (by rfl) T.g_len PySem.boot_len (pa_cons (pe_call (ok_row T) (hr.mono (by decide)) (by rfl) T.m_row_of T.F_row_of.kp (b_row T) .nil pass0 (pa_cons (pv 1) pa_nil)) pa_nil)) pa_nil)
        (pk_cons (pv 2) pk_nil) rfl (Or.inl rfl))))), ?_⟩
    refine ⟨_, rfl, _, rfl, ⟨by omega, by omega⟩, rfl, _, rfl, a, ns, rfl, ha, hl, hk, fun H1 p s1 hp => ?_⟩
    refine ⟨p, _, rfl, .inr (SqT.of hp), _, rfl, rfl, rfl, fun x dx nx ndx nex => ?_⟩
    refine ⟨x, dx, ns.length, w, by rw [List.length_map]; rfl, hl, hw, upd_same, fun H2 k2 t2 => ⟨rfl, q H2 x (fun b o e => k2 b o ?_ (ne_of_none (s1 _ _ e) nx)) (s1.free nx) t2⟩⟩
    rw [upd_ne (ne_of_none (s1 _ _ e) nx), upd_ne (ne_of_none (s1 _ _ e) ndx)]
    exact s1 _ _ e
theorem ok_iter (T : Tx K mg A) : FnIt P w K mg base 2 A.f_t___iter__ A.d_t___iter__ ["self"] (spIter K A.C "_places") := by
  refine fnIt_of T.F_t___iter__ sc_t___iter__ (fun cdv B outer s H vs Q hr h => ?_)
  obtain ⟨a, dx, fs, t, zs, rfl, ha, hf, ht, q⟩ := h
  refine ⟨_, pss_one (ps_ret (pe_callB call_iterT (by rfl) T.g_iter (by decide +kernel) (pa_cons (pe_fld (pv 0) rfl) pa_nil))), ?_⟩
  exact ⟨_, rfl, a, A.C, dx, _, _, rfl, ha, T.cT, T.nPl, hf, t, zs, rfl, ht, q⟩
/-- the parent as the program says it -/
def parV (w p : Nat) : V := if p = 0 then .non else .int ((p - 1) / w : Nat)
def spCp : Sp := fun vs H Q _ => ∃ i n : Int, vs = [.int i, .int n] ∧ (0 ≤ i ∧ i < n) ∧ Q .non H
theorem ok_cp (T : Tx K mg A) : FnOk P w K mg base CX0 3 A.f_check_place A.d_check_place ["place", "many"] spCp := by
  refine T.F_check_place.ok sc_check_place (fun vs H Q E h => ?_) (fun cdv B outer s H vs Q E hr h => ?_)
  · obtain ⟨i, n, rfl, _⟩ := h
    rfl
  · obtain ⟨i, n, rfl, hi, q⟩ := h
    refine ⟨_, pss_one (ps_if (pt_not (pt_val (pe_call (ok_ii T) hr (by rfl) T.m_is_integer_from T.F_is_integer_from.kp (b_ii T) .nil pass0
      (pa_cons (pv 0) (pa_cons pe_int (pa_cons (pe_op op_sub (pv 1) pe_int) pa_nil)))))) (pss_one ps_never) pss_nil), ?_⟩
    refine ⟨_, rfl, _, rfl, _, _, rfl, rfl, _, _, _, rfl, .inl ⟨i, rfl, _, rfl, ?_⟩⟩
    rw [decide_eq_true (show 0 ≤ i ∧ i ≤ n - 1 by omega)]
    exact iteF q
end
end Tw

set_option Elab.async false
set_option linter.all false
set_option maxRecDepth 100000
set_option maxHeartbeats 2000000
namespace Tw
open PySem PySem.Spec PyProof.Rows L2
section
variable {P : Program} {w : World} {K : PySem.W.Frag} {mg : Str → Option Value} {base : Heap} {A : Ad}
open LamX (ExtN Tabs TabS)
theorem b_cp (T : Tx K mg A) : L2.Binds K A.d_check_place ["place", "many"] [] := T.F_check_place.binds fun _ _ _ _ _ _ us hl => match us, hl with | [_, _], _ => rfl
theorem n2 : ¬ (("many" : Str) = "_places") := by decide +kernel
theorem tf_many (n w t : Nat) : (tf n w t).lookup ("many" : Str) = some (.int n) := by
  unfold tf
  rw [lookup_putF, if_neg n2, lookup_putF, if_neg n1, lookup_putF, if_pos rfl]
theorem n3 : ¬ (("arms" : Str) = "_places") := by decide +kernel
theorem tf_arms (n w t : Nat) : (tf n w t).lookup ("arms" : Str) = some (.int w) := by
  unfold tf
  rw [lookup_putF, if_neg n3, lookup_putF, if_pos rfl]
def spPar (C : Addr) : Sp := fun vs H Q _ => ∃ (p n w i : Nat), vs = [.ref p, .int i] ∧ TreeAt C H p n w ∧ i < n ∧ Q (parV w i) H
theorem ok_par (T : Tx K mg A) : FnOk P w K mg base CX0 4 A.f_t_parent A.d_t_parent ["self", "place"] (spPar A.C) := by
  refine T.F_t_parent.ok sc_t_parent (fun vs H Q E h => ?_) (fun cdv B outer s H vs Q E hr h => ?_)
  · obtain ⟨p, n, w, i, rfl, _⟩ := h
    rfl
  · obtain ⟨p, n, w, i, rfl, t, hi, q⟩ := h
    obtain ⟨dx, l, h1, h2⟩ := t.ob
    refine ⟨_, pss_cons (ps_expr (pe_call (ok_cp T) hr (by rfl) T.m_check_place T.F_check_place.kp (b_cp T) .nil pass0 (pa_cons (pv 1) (pa_cons (pe_fld (pv 0) rfl) pa_nil))))
      (pss_cons (ps_if (pt_cmpR op_eq (pv 1) pe_int (nomark _)) (pss_one (ps_ret pe_non)) pss_nil)
      (pss_one (ps_ret (pe_op op_fdivN (pe_op op_sub (pv 1) pe_int) (pe_fld (pv 0) rfl))))), ?_⟩
    refine ⟨_, rfl, _, rfl, p, A.C, dx, _, _, rfl, h1, T.cT, T.nMany, tf_many _ _ _, _, _, rfl, ⟨by omega, by omega⟩, ?_⟩
    refine ⟨_, rfl, rfl, _, rfl, ?_⟩
    by_cases h0 : i = 0
    · rw [decide_eq_true (show V.int (i : Nat) = V.int 0 by rw [h0]; rfl)]
      refine iteT ?_
      unfold parV at q
      rw [if_pos h0] at q
      exact q
    · rw [decide_eq_false (show ¬ V.int (i : Nat) = V.int 0 by intro z; injection z with z; omega)]
      refine iteF ?_
      refine ⟨_, rfl, _, _, rfl, rfl, _, rfl, p, A.C, dx, _, _, rfl, h1, T.cT, T.nArms, tf_arms _ _ _, _, _, rfl, rfl, ⟨by have := t.hw; omega, by have := t.hw; omega⟩, ?_⟩
      unfold parV at q
      rw [if_neg h0] at q
      have e : Int.fdiv ((i : Int) - 1) (w : Int) = ((i - 1) / w : Nat) := by
        rw [Int.fdiv_eq_ediv_of_nonneg _ (by omega), show ((i : Int) - 1) = ((i - 1 : Nat) : Int) by omega]
        rfl
      show Q (V.int (Int.fdiv ((i : Int) - 1) (w : Int))) H
      rw [e]
      exact q
theorem ix_sq {H : Hp} {a : Addr} {ns : List Int} {i : Nat} {Q : VK} (h : Sq H a (ns.map V.int)) (hi : i < ns.length) (q : Q (.int (ns.getD i 0)) H) : rIx K (.ref a) (.int i) H Q := by
  have e : (ns.map V.int)[i]? = some (V.int (ns.getD i 0)) := by
    rw [List.getElem?_map, List.getElem?_eq_getElem hi, List.getD_eq_getElem?_getD, List.getElem?_eq_getElem hi]
    rfl
  rcases h with h | h
  · exact .inl ⟨a, _, _, _, rfl, rfl, SqL.of h, atI_nat e, q⟩
  · exact .inr (.inl ⟨a, _, _, _, rfl, rfl, SqT.of h, atI_nat e, q⟩)
theorem filt_pick (l : List Nat) (b : Nat → Bool) : vi (l.filter b) = l.filterMap fun j => if b j = true then some (V.int (j : Nat)) else none := by
  unfold vi
  induction l with
  | nil => rfl
  | cons a l ih =>
    by_cases h : b a = true
    · rw [List.filter_cons_of_pos h, List.map_cons, ih, List.filterMap_cons, if_pos h]
    · rw [List.filter_cons_of_neg h, ih, List.filterMap_cons, if_neg h]
def spFau : Sp := fun vs H Q _ => ∃ (a w : Nat) (ns : List Int), vs = [.ref a, .int w] ∧ (1 ≤ w ∧ w ≤ 4) ∧ RowIn H a ns ∧ ∀ H' q, Same H H' → H q = none → H' q = some (.lst (vi (faultL ns w))) → Q (.ref q) H'
theorem ok_fau (T : Tx K mg A) : FnOk P w K mg base CX0 7 A.f_faults A.d_faults ["row", "arms"] spFau := by
  obtain ⟨mo, ko⟩ := kb_of T
  refine T.F_faults.ok sc_faults (fun vs H Q E h => ?_) (fun cdv B outer s H vs Q E hr h => ?_)
  · obtain ⟨a, w, ns, rfl, _⟩ := h
    rfl
  · obtain ⟨a, w, ns, rfl, hw, hrow, q⟩ := h
    have nd := sc_faults.nd
    refine ⟨_, PSs.nox (pss_cons (ps_set (i := 2) nd rfl (Or.inr rfl) (pe_cmethK (pe_glob (v := .ref A.C) (by rfl) T.mC (relR _)) T.cr T.cof (ok_of T) hr ko pass0 (pa_cons (pv 0) pa_nil) (pk_cons (pv 1) pk_nil)))
      (pss_one (ps_ret (pe_lc (own := [("place", 3)]) (g := gName 3) rfl nd (pi_own T.D_t___iter__ (ok_iter T) (hr.mono (by decide)) (b_iter T) (pv 2)) (blkOk_by (own := [("place", 3)]) (N := ["row", "arms", "tree", "place"]) (sc := defScope s_faults) (by decide +kernel))
        (fun _ _ _ _ _ => pg_name (i := 3) nd rfl (Or.inl rfl))
        (fun _ _ _ _ _ => pts_one (PW.pt (pw_and (pt_cmpR op_gt (pv 3) pe_int (nomark _)) (pw_and1 (pt_cmpR op_lt (pe_ix (r := rIx K) ix_seq (pv 0) (pv 3) (fun _ _ => rfl))
          (pe_ix (r := rIx K) ix_seq (pv 0) (pe_meth (pv 2) T.cT T.M_t_parent (ok_par T) (hr.mono (by decide)) (b_par T) .nil pass0 (pa_cons (pv 3) pa_nil)) (fun _ _ => rfl)) (nomark _))))))
        (fun _ _ _ _ _ => pv 3))))), ?_⟩
    refine ⟨rfl, _, rfl, _, rfl, rfl, rfl, a, w, ns, rfl, hw, hrow.1, hrow.2.1, hrow.2.2, fun H1 p s1 p0 t1 => ?_⟩
    obtain ⟨dx, l, h1, h2⟩ := t1.ob
    have noP : (tf ns.length w l).lookup ("parent" : Str) = none := tf_no _ _ _ (by decide +kernel) (by decide +kernel) (by decide +kernel)
    have hlen := hrow.2.1
    refine ⟨_, rfl, p, dx, _, l, _, rfl, h1, tf_pl _ _ _, SqT.of h2, fun D hD => ?_⟩
    refine lc_it (walk_tup (xs := pl ns.length)) (PickI H1 D (List.range ns.length) fun j => if faultB ns w j = true then some (V.int (j : Nat)) else none) (pick_start hD) (fun k H' _ h => SqT.of (h.s _ _ h2)) ?_ ?_
    · rintro k x H2 H3 hk pk ⟨rfl, ex⟩
      obtain ⟨hk', rfl⟩ := map_at ex
      rw [List.getElem_range]
      have hk2 : k < ns.length := by rw [List.length_range] at hk'; exact hk'
      have hrow3 := (hrow.1.same s1).same pk.s
      refine ⟨rfl, _, rfl, _, _, rfl, rfl, _, rfl, ?_⟩
      by_cases h0 : 0 < k
      · rw [decide_eq_true (show (0 : Int) < (k : Nat) by omega)]
        have ep : parV w k = V.int ((k - 1) / w : Nat) := by unfold parV; rw [if_neg (by omega)]
        have hlt : (k - 1) / w < k := Nat.lt_of_le_of_lt (Nat.div_le_self _ _) (by omega)
        refine iteT ⟨_, rfl, _, rfl, ix_sq hrow3 hk2 ⟨_, rfl, _, rfl, p, dx, _, rfl, pk.s _ _ h1, noP, _, rfl, p, ns.length, w, k, rfl, t1.same pk.s, hk2, ?_⟩⟩
        rw [ep]
        refine ix_sq hrow3 (by omega) ⟨_, _, rfl, rfl, _, rfl, ?_⟩
        have ef : faultB ns w k = decide (ns.getD k 0 < ns.getD ((k - 1) / w) 0) := by unfold faultB; rw [decide_eq_true h0, Bool.true_and]
        by_cases hf : ns.getD k 0 < ns.getD ((k - 1) / w) 0
        · rw [decide_eq_true hf] at ef ⊢
          exact iteT ⟨_, rfl, pick_yes hk' (by rw [List.length_range]; omega) (by rw [List.getElem_range, ef]; rfl) (Same.refl _) pk⟩
        · rw [decide_eq_false hf] at ef ⊢
          exact iteF (pick_no hk' (by rw [List.getElem_range, ef]; rfl) (Same.refl _) pk)
      · rw [decide_eq_false (show ¬ (0 : Int) < (k : Nat) by omega)]
        have ef : faultB ns w k = false := by unfold faultB; rw [decide_eq_false h0, Bool.false_and]
        exact iteF (iteF (pick_no hk' (by rw [List.getElem_range, ef]; rfl) (Same.refl _) pk))
    · intro H2 pk
      have ac := pick_end (by rw [pl_len, List.length_range]) pk
      refine q _ D (s1.trans ac.s) (s1.free hD) ?_
      rw [ac.a]
      unfold faultL
      rw [filt_pick]
theorem kb_fau (T : Tx K mg A) : ∃ mv : List Value, KBn K A.d_faults ["row", "arms"] 1 ["arms"] (fun us ws => us ++ (mv ++ ws)) (fun vs zs => vs ++ zs) := by
  obtain ⟨mv, h⟩ := T.F_faults.kbinds0 (ps := ["row", "arms"]) 1 ["arms"] [] (fun us mv ws => us ++ (mv ++ ws)) (by simp) (by simp) (fun r1 r2 r3 => r1.append (r2.append r3))
    (fun D doc pm an cdv ct us mv ws h1 h2 h3 => by
      match us, mv, ws, h1, h2, h3 with
      | [a], [], [c], _, _, _ => rfl)
  exact ⟨mv, h⟩
def rTupOf (K : PySem.W.Frag) : List V → Hp → VK → Prop := fun xs H Q => ∃ p ys, xs = [V.ref p] ∧ ((SqL K H p ys ∧ ∀ l, H l = none → Q (.ref l) (upd H l (.tup ys))) ∨ SqT K H p ys ∧ Q (.ref p) H)
theorem call_tupK {X : Cx} : CallR X (.type "tuple") (rTupOf X.K) := call_tuple_of
def spHp : Sp := fun vs H Q _ => ∃ (r w : Nat) (ks : List Int), vs = [.ref r, .int w] ∧ (1 ≤ w ∧ w ≤ 4) ∧ RowIn H r ks ∧ faultL ks w = [] ∧ ∀ H' q, Same H H' → H' q = some (.tup (ks.map V.int)) → Q (.ref q) H'
theorem ok_hp (T : Tx K mg A) : FnOk P w K mg base CX0 8 A.f_heap_of A.d_heap_of ["row", "arms"] spHp := by
  obtain ⟨mf, kf⟩ := kb_fau T
  refine T.F_heap_of.ok sc_heap_of (fun vs H Q E h => ?_) (fun cdv B outer s H vs Q E hr h => ?_)
  · obtain ⟨r, w, ks, rfl, _⟩ := h
    rfl
  · obtain ⟨r, w, ks, rfl, hw, hrow, hf, q⟩ := h
    have nd := sc_heap_of.nd
    refine ⟨_, PSs.nox (pss_cons (ps_set (i := 2) nd rfl (Or.inl rfl) (pe_callN (ok_fau T) (hr.mono (by decide)) (by rfl) T.m_faults T.F_faults.kp kf pass0 (pa_cons (pv 0) pa_nil) (pk_cons (pv 1) pk_nil)))
      (pss_cons (ps_if (pt_truth (pv 2) (fun _ => rfl)) (pss_one ps_never) pss_nil)
      (pss_one (ps_ret (pe_callTy (r := rTupOf K) call_tupK (by rfl) T.g_tuple (by decide +kernel) (pa_cons (pv 0) pa_nil)))))), ?_⟩
    refine ⟨_, rfl, _, rfl, rfl, rfl, r, w, ks, rfl, hw, hrow, fun H1 d s1 d0 hd => ?_⟩
    refine ⟨_, rfl, !(vi (faultL ks w)).isEmpty, .inl ⟨_, SqL.of hd, rfl⟩, ?_⟩
    rw [hf]
    refine iteF ?_
    rcases hrow.1.same s1 with h | h
    · exact ⟨_, rfl, r, _, rfl, .inl ⟨SqL.of h, fun t nt => q _ t (s1.trans (Same.up nt)) upd_same⟩⟩
    · exact ⟨_, rfl, r, _, rfl, .inr ⟨SqT.of h, q _ r s1 h⟩⟩
def spChp : Sp := fun vs H Q _ => ∃ (r c w : Nat) (ks : List Int), vs = [.ref r, .int c, .int w] ∧ HpC H r c w ks ∧ ∀ H' q, Same H H' → H' q = some (.tup (ks.map V.int)) → Q (.ref q) H'
theorem ok_chp (T : Tx K mg A) : FnOk P w K mg base CX0 9 A.f_counted_heap_of A.d_counted_heap_of ["row", "count", "arms"] spChp := by
  refine T.F_counted_heap_of.ok sc_counted_heap_of (fun vs H Q E h => ?_) (fun cdv B outer s H vs Q E hr h => ?_)
  · obtain ⟨r, c, w, ks, rfl, _⟩ := h
    rfl
  · obtain ⟨r, c, w, ks, rfl, hp, q⟩ := h
    have nd := sc_counted_heap_of.nd
    refine ⟨_, (pss_cons (ps_set (i := 3) nd rfl (Or.inl rfl) (pe_call (ok_hp T) (hr.mono (by decide)) (by rfl) T.m_heap_of T.F_heap_of.kp (b_hp T) .nil pass0 (pa_cons (pv 0) (pa_cons (pv 2) pa_nil))))
      (pss_cons (ps_expr (pe_call (ok_cc T) (hr.mono (by decide)) (by rfl) T.m_check_count T.F_check_count.kp (b_cc T) .nil pass0 (pa_cons (pv 1) (pa_cons (pe_callB call_len_seq (by rfl) T.g_len PySem.boot_len (pa_cons (pv 3) pa_nil)) pa_nil))))
      (pss_one (ps_ret (pv 3))))), ?_⟩
    refine ⟨_, rfl, _, rfl, r, w, ks, rfl, hp.hw, hp.row, hp.flt, fun H1 p s1 e1 => ?_⟩
    refine ⟨_, rfl, _, rfl, p, _, rfl, .inr (SqT.of e1), c, ks.length, by rw [List.length_map]; rfl, hp.hc, ?_⟩
    exact ⟨_, rfl, q _ p s1 e1⟩
theorem refl_of {d : PyData} (h : SeqAt.shaped d = true) : PyData.eqv d d = true := PySem.SeqAt.eqv_refl d (SeqAt.canLay_of_shaped h)
theorem SqT.sm {K : PySem.W.Frag} {H H' : Hp} {a : Addr} {xs : List V} (s : Same H H') (h : SqT K H a xs) : SqT K H' a xs := by
  rcases h with (h | ⟨o, h⟩) | h
  · exact .inl (.inl (s _ _ h))
  · exact .inl (.inr ⟨o, s _ _ h⟩)
  · exact .inr h
theorem natB_len (p : List Nat) : (natB p).length = p.length := by
  unfold natB
  rw [List.length_map]
theorem repl_all (n : Nat) : (List.replicate n true).all id = true := by
  rw [List.all_eq_true]
  intro x hx
  rw [(List.mem_replicate.mp hx).2]
  rfl
theorem asc_nodup {l : List Int} (h : l.Pairwise (· < ·)) : l.Nodup := h.imp fun a => Int.ne_of_lt a
theorem asc_eq {l m : List Int} (h1 : l.Pairwise (· < ·)) (h2 : m.Pairwise (· < ·)) (h : ∀ x, x ∈ l ↔ x ∈ m) : l = m :=
  List.Perm.eq_of_pairwise (fun x y _ _ a b => absurd (Int.lt_trans a b) (Int.lt_irrefl _)) h1 h2 ((List.perm_ext_iff_of_nodup (asc_nodup h1) (asc_nodup h2)).mpr fun x => h x)
theorem sqT_ty {K : PySem.W.Frag} {H : Hp} {a : Addr} {xs : List V} (h : SqT K H a xs) : TyX K H (.ref a) (.type "tuple") := by
  rcases h with (h | ⟨o, h⟩) | ⟨o, its, n, e, c, _⟩
  · exact .base (.tup h)
  · exact .fTuple h
  · exact .kTuple e c
def spIsp (K : PySem.W.Frag) : Sp := fun vs H Q _ => ∃ (a n : Nat) (s : List Nat), vs = [.ref a, .int n] ∧ SqT K H a (nv s) ∧ PSet2 n s ∧ ∀ H' : Hp, Same H H' → Q (.bl true) H'
theorem ok_isp (T : Tx K mg A) : FnOk P w K mg base CX0 3 A.f_is_set_of_places A.d_is_set_of_places ["thing", "many"] (spIsp K) := by
  refine T.F_is_set_of_places.ok sc_is_set_of_places (fun vs H Q E h => ?_) (fun cdv B outer s H vs Q E hr h => ?_)
  · obtain ⟨a, n, s, rfl, _⟩ := h
    rfl
  · obtain ⟨a, n, l, rfl, ha, hc, q⟩ := h
    have nd := sc_is_set_of_places.nd
    have hu := hr.units
    have h12 := hc.len
    refine ⟨_, (pss_cons (ps_if (PW.pt (pw_or (pt_not (pt_val (pe_callB call_isi (by rfl) T.g_isinstance (by decide +kernel) (pa_cons (pv 0) (pa_cons (pe_bltn (v := .ty "tuple") (by rfl) T.g_tuple (by decide +kernel) rfl) pa_nil))))) (pw_or1 (pt_not (pt_val (pe_callB (cr_all rfl) (by rfl) T.g_all (by decide +kernel) (pa_cons (pe_lc (own := [("item", 2)]) (g := gName 2) (tt := tYes) rfl nd (pi_tup (pv 0)) (blkOk_by (own := [("item", 2)]) (N := ["thing", "many", "item"]) (sc := (defScope s_is_set_of_places)) (by decide +kernel)) (fun _ _ _ _ _ => pg_name (i := 2) nd rfl (Or.inl rfl)) (fun _ _ _ _ _ => pts_nil) (fun _ _ _ _ _ => (pe_call (ok_ii T) (hr.mono (by decide)) (by rfl) T.m_is_integer_from T.F_is_integer_from.kp (b_ii T) .nil pass0 (pa_cons (pv 2) (pa_cons pe_int (pa_cons (pe_op op_sub (pv 1) pe_int) pa_nil)))))) pa_nil))))))) (pss_one (ps_ret pe_bl)) pss_nil)
      (pss_one (ps_ret (pe_cmpR (op_eqD hu) (pe_callTy call_list_of (by rfl) T.g_list (by decide +kernel) (pa_cons (pv 0) pa_nil)) (pe_callB (cr_sortedSet rfl) (by rfl) T.g_sorted (by decide +kernel) (pa_cons (pe_callTy (cr_setTI rfl) (by rfl) T.g_set (by decide +kernel) (pa_cons (pv 0) pa_nil)) pa_nil)) (nomark _))))), ?_⟩
    refine ⟨_, rfl, _, _, .type "tuple", .type "tuple", true, rfl, .ty "tuple", sqT_ty ha, kit_ty (by decide +kernel), true, rfl, iteF ?_⟩
    refine ⟨_, rfl, a, rfl, ⟨_, ha⟩, fun D nD => ?_⟩
    refine lc_it (walk_tup (xs := nv l)) (fun i H' => Acc H D (List.replicate i (V.bl true)) H') (Acc.start nD) (fun i H' _ ac => SqT.sm ac.s ha) ?_ ?_
    · rintro j y H2o H2 hj ac ⟨rfl, hy⟩
      obtain ⟨hj2, rfl⟩ := nv_at hy
      have hb := hc.up _ (List.getElem_mem hj2)
      refine ⟨rfl, iteT (B := Acc H D (List.replicate (j + 1) (V.bl true)) H2) ?_⟩
      refine ⟨_, rfl, _, rfl, _, _, rfl, rfl, _, _, _, rfl, Or.inl ⟨_, rfl, ?_⟩⟩
      rw [decide_eq_true (show (0 : Int) ≤ (l[j] : Nat) ∧ ((l[j] : Nat) : Int) ≤ (n : Int) - 1 by omega)]
      refine ⟨_, ac.a, by rw [List.length_replicate, sizeLine_eq]; omega, ?_⟩
      rw [show List.replicate (j + 1) (V.bl true) = List.replicate j (V.bl true) ++ [V.bl true] from List.replicate_succ']
      exact ac.push
    · intro H2 ac
      rw [nv_len] at ac
      refine ⟨D, List.replicate l.length true, rfl, SqL.of (by rw [ac.a, List.map_replicate]), _, rfl, ?_⟩
      rw [repl_all]
      refine iteF ?_
      have ha2 := SqT.sm ac.s ha
      refine ⟨_, rfl, a, _, rfl, .inr ha2, fun m nm => ?_⟩
      have s3 := Same.up (o := .lst (nv l)) nm
      have e3 : upd H2 m (.lst (nv l)) m = some (.lst (nv l)) := upd_same
      have ha3 := SqT.sm s3 ha2
      have s13 := ac.s.trans s3
      generalize upd H2 m (.lst (nv l)) = G3 at e3 ha3 s13
      refine ⟨_, rfl, a, natB l, rfl, ha3, by rw [natB_len]; omega, fun p k hk np => ?_⟩
      have s4 := Same.up (o := SetO w p (fun j => decide (j ∈ natB l)) k) np
      refine ⟨p, _, k, rfl, upd_same, by rw [natB_len] at hk; omega, fun ns p2 hasc hmem hlen np2 => ?_⟩
      have s5 := s4.trans (Same.up (o := .lst (ns.map V.int)) np2)
      obtain rfl : ns = natB l := asc_eq hasc (by
        unfold natB
        rw [List.pairwise_map]
        exact hc.asc.imp fun h => Int.ofNat_lt.mpr h) fun x => by rw [hmem, decide_eq_true_eq]
      refine ⟨.list ((natB l).map PyData.int), .list ((natB l).map PyData.int), .lst (SqL.of (s5 _ _ e3)) (ints_dp _ _ _), .lst (SqL.of upd_same) (ints_dp _ _ _), shaped_ints _, shaped_ints _, ?_⟩
      rw [refl_of (shaped_ints _)]
      exact q _ (s13.trans s5)
theorem plAt {n i : Nat} {x : V} (h : (pl n)[i]? = some x) : i < n ∧ x = V.int (i : Nat) := by
  unfold pl at h
  rw [List.getElem?_map] at h
  by_cases hi : i < n
  · rw [List.getElem?_range hi] at h
    exact ⟨hi, (Option.some.inj h).symm⟩
  · rw [List.getElem?_eq_none (by rw [List.length_range]; omega)] at h
    cases h
abbrev rLn (K : PySem.W.Frag) : List V → Hp → VK → Prop := fun xs H Q => ∃ p ys, xs = [.ref p] ∧ (SqL K H p ys ∨ SqT K H p ys) ∧ Q (.int ys.length) H
end
end Tw

set_option Elab.async false
set_option linter.all false
set_option maxRecDepth 100000
set_option maxHeartbeats 2000000
namespace Tw
open PySem PySem.Spec PyProof.Rows L2
section
variable {P : Program} {w : World} {K : PySem.W.Frag} {mg : Str → Option Value} {base : Heap} {A : Ad}
open LamX (ExtN Tabs TabS)
/-! the program's own: ok_chp HpC RowIn ok_isp PSet2 nv nv_len nv_at ok_of ok_par TreeAt fault_heap keyAt kidL map_one cst Acc tf_pl tf_no plAt pl_len inV_nv nv_flat walk_tup keyAt_snoc atI_nat -/
def spHpl : Sp := fun vs H Q _ => ∃ (r c p w : Nat) (ks : List Int) (P : List Nat), vs = [.ref r, .int c, .ref p, .int w] ∧ HpC H r c w ks ∧ H p = some (.tup (nv P)) ∧ PSet2 ks.length P ∧ ∀ H' q, Same H H' → H' q = some (.tup (ks.map V.int)) → Q (.ref q) H'
theorem ok_hpl (T : Tx K mg A) : FnOk P w K mg base CX0 10 A.f_heap_of_places A.d_heap_of_places ["row", "count", "places", "arms"] spHpl := by
  refine T.F_heap_of_places.ok sc_heap_of_places (fun vs H Q E h => ?_) (fun cdv B outer s H vs Q E hr h => ?_)
  · obtain ⟨r, c, p, w, ks, P, rfl, _⟩ := h
    rfl
  · obtain ⟨r, c, p, w, ks, P, rfl, hp, ep, hP, q⟩ := h
    have nd := sc_heap_of_places.nd
    refine ⟨_, (pss_cons (ps_set (i := 4) nd rfl (Or.inl rfl) (pe_call (ok_chp T) (hr.mono (by decide)) (by rfl) T.m_counted_heap_of T.F_counted_heap_of.kp (b_chp T) .nil pass0 (pa_cons (pv 0) (pa_cons (pv 1) (pa_cons (pv 3) pa_nil)))))
      (pss_cons (ps_if (pt_not (pt_val (pe_call (ok_isp T) (hr.mono (by decide)) (by rfl) T.m_is_set_of_places T.F_is_set_of_places.kp (b_isp T) .nil pass0 (pa_cons (pv 2) (pa_cons (pe_callB (r := rLn K) call_len_seq (by rfl) T.g_len PySem.boot_len (pa_cons (pv 4) pa_nil)) pa_nil))))) (pss_one ps_never) pss_nil)
      (pss_one (ps_ret (pv 4))))), ?_⟩
    refine ⟨_, rfl, _, rfl, _, rfl, r, c, w, ks, rfl, hp, fun H1 h s1 e1 => ?_⟩
    refine ⟨_, rfl, _, rfl, h, _, rfl, .inr (SqT.of e1), p, (ks.map V.int).length, P, rfl, SqT.of (s1 _ _ ep), by rw [List.length_map]; exact hP, fun H2 s2 => ⟨_, rfl, iteF ⟨_, rfl, q _ h (s1.trans s2) (s2 _ _ e1)⟩⟩⟩
theorem b_hpl (T : Tx K mg A) : L2.Binds K A.d_heap_of_places ["row", "count", "places", "arms"] [] := T.F_heap_of_places.binds fun _ _ _ _ _ _ us hl => match us, hl with | [_, _, _, _], _ => rfl
theorem IsLs.step {i w : Nat} {P : List Nat} {ks L : List Int} {x : Int} (h : IsLs i w P ks L) (h1 : i ∈ P → x = keyAt ks i) (h2 : i ∉ P → i = 0 → x = -1000000000) (h3 : i ∉ P → 0 < i → x = keyAt L ((i - 1) / w)) : IsLs (i + 1) w P ks (L ++ [x]) := by
  have hl := h.len
  refine ⟨by rw [List.length_append, hl]; rfl, fun j hj => ?_⟩
  have hd := Nat.div_le_self (j - 1) w
  rw [keyAt_snoc, keyAt_snoc]
  by_cases c : j < i
  · rw [if_pos (show j < L.length by omega), if_pos (show (j - 1) / w < L.length by omega)]
    exact h.eq j c
  · obtain rfl : j = i := by omega
    rw [if_neg (show ¬ j < L.length by omega), if_pos (show j = L.length by omega)]
    refine ⟨h1, h2, fun a b => ?_⟩
    rw [if_pos (show (j - 1) / w < L.length by omega)]
    exact h3 a b
theorem key_atI {ks : List Int} {i : Nat} (h : i < ks.length) : atI (ks.map V.int) (i : Int) = some (V.int (keyAt ks i)) := by
  refine atI_nat ?_
  rw [List.getElem?_map, List.getElem?_eq_getElem h, keyAt_get h]
  rfl
def spRwl : Sp := fun vs H Q _ => ∃ (h p w : Nat) (ks : List Int) (P : List Nat), vs = [.ref h, .ref p, .int w] ∧ (1 ≤ w ∧ w ≤ 4) ∧ H h = some (.tup (ks.map V.int)) ∧ ks.length ≤ 12 ∧ (∀ z ∈ ks, -1000000000 ≤ z ∧ z ≤ 1000000000) ∧ H p = some (.tup (nv P)) ∧
  ∀ (H' : Hp) (q : Addr) (L : List Int), Same H H' → H' q = some (.tup (L.map V.int)) → IsLs ks.length w P ks L → Q (.ref q) H'
theorem ok_rwl (T : Tx K mg A) : FnOk P w K mg base CX0 8 A.f_row_with_least A.d_row_with_least ["heap", "places", "arms"] spRwl := by
  obtain ⟨mo, ko⟩ := kb_of T
  refine T.F_row_with_least.ok sc_row_with_least (fun vs H Q E h => ?_) (fun cdv B outer s H vs Q E hr h => ?_)
  · obtain ⟨h, p, w, ks, P, rfl, _⟩ := h
    rfl
  · obtain ⟨h, p, w, ks, P, rfl, hw, eh, h12, hbd, ep, q⟩ := h
    have nd := sc_row_with_least.nd
    obtain ⟨_, hg_GREATEST_KEY⟩ := cst T.c_GREATEST_KEY
    have hu := hr.units
    refine ⟨_, (C8.pss_cut (ps_set (i := 3) nd rfl (Or.inl rfl) (pe_cmethK (pe_glob (v := .ref A.C) (by rfl) T.mC (relR _)) T.cr T.cof (ok_of T) (hr.mono (by decide)) ko pass0 (pa_cons (pv 0) pa_nil) (pk_cons (pv 2) pk_nil)))
      (pss_cons (ps_set (i := 4) nd rfl (Or.inl rfl) (pe_lst pa_nil))
      (C8.pss_cut (ps_for PassesOwn.never rfl (pi_own T.D_t___iter__ (ok_iter T) (hr.mono (by decide)) (b_iter T) (pv 3)) (pg_name (i := 5) nd rfl (Or.inl rfl)) (pss_one (ps_if (pt_cmpR (r := L2.rIn K false) op_in_seq (pv 5) (pv 1) (by rfl)) (pss_one (ps_expr (pe_bm PySem.F.plainAttrs_list PySem.F.slot_list_append PySem.F.type_list_append mt_append (pv 4) (pa_cons (pe_ix (r := rIxT K) ix_tup (pv 0) (pv 5) (fun _ _ => rfl)) pa_nil)))) (pss_one (ps_if (pt_cmpR op_eq (pv 5) pe_int (nomark _)) (pss_one (ps_expr (pe_bm PySem.F.plainAttrs_list PySem.F.slot_list_append PySem.F.type_list_append mt_append (pv 4) (pa_cons (pe_un un_neg (pe_glob (by rfl) hg_GREATEST_KEY (relI _ _))) pa_nil)))) (pss_one (ps_expr (pe_bm PySem.F.plainAttrs_list PySem.F.slot_list_append PySem.F.type_list_append mt_append (pv 4) (pa_cons (pe_ix (r := rIxL K) ix_list (pv 4) (pe_meth (pv 3) T.cT T.M_t_parent (ok_par T) (hr.mono (by decide)) (b_par T) .nil pass0 (pa_cons (pv 5) pa_nil)) (fun _ _ => rfl)) pa_nil)))))))))
      (pss_one (ps_ret (pe_callTy (r := rTupK K) call_tupleK (by rfl) T.g_tuple (by decide +kernel) (pa_cons (pv 4) pa_nil))))))), ?_⟩
    refine ⟨fun σ' H' => ∃ t : Addr, σ' = [some (.ref h), some (.ref p), some (.int w), some (.ref t), none, none] ∧ Same H H' ∧ TreeAt A.C H' t ks.length w, ?_, ?_⟩
    · refine ⟨rfl, _, rfl, _, rfl, rfl, rfl, h, w, ks, rfl, hw, .inr eh, h12, hbd, fun H2 tr s2 p0 t2 => ⟨tr, rfl, s2, t2⟩⟩
    rintro σ' H1 ⟨t, rfl, s1, t1⟩
    refine ⟨Nat.zero_le _, fun D nD => ?_⟩
    have s2 := Same.up (o := .lst []) nD
    have eD : upd H1 D (.lst []) D = some (.lst (([] : List Int).map V.int)) := upd_same
    obtain ⟨dx, l, h1, h2⟩ := id t1.ob
    have noP : (tf ks.length w l).lookup ("parent" : Str) = none := tf_no _ _ _ (by decide +kernel) (by decide +kernel) (by decide +kernel)
    refine ⟨fun σ' H' => ∃ (x5 : Option V) (L : List Int), σ' = [some (.ref h), some (.ref p), some (.int w), some (.ref t), some (.ref D), x5] ∧ Same H1 H' ∧ H' D = some (.lst (L.map V.int)) ∧ IsLs ks.length w P ks L, ?_, ?_⟩
    · refine ⟨_, rfl, t, dx, _, l, _, rfl, s2 _ _ h1, tf_pl _ _ _, SqT.of (s2 _ _ h2), ?_⟩
      refine for_it (walk_tup (xs := pl ks.length)) (fun i σ' H' => ∃ (x5 : Option V) (L : List Int), σ' = [some (.ref h), some (.ref p), some (.int w), some (.ref t), some (.ref D), x5] ∧ Same H1 H' ∧ H' D = some (.lst (L.map V.int)) ∧ IsLs i w P ks L)
        ⟨none, [], rfl, s2, eD, ⟨rfl, fun i hi => absurd hi (Nat.not_lt_zero _)⟩⟩ (fun i σ' H' _ ⟨_, _, _, s, _⟩ => SqT.of (s _ _ h2)) ?_ (fun σ' H' h => by rw [pl_len] at h; exact h)
      rintro i x σ' Ho H3 hi ⟨x5, L, rfl, s3, e3, hL⟩ ⟨rfl, hx⟩
      obtain ⟨hi2, rfl⟩ := plAt hx
      have hl := hL.len
      have ep3 := s3 _ _ (s1 _ _ ep)
      have eh3 := s3 _ _ (s1 _ _ eh)
      have fin : ∀ {x : Int}, IsLs (i + 1) w P ks (L ++ [x]) → ∃ (x5 : Option V) (L' : List Int), [some (V.ref h), some (V.ref p), some (V.int w), some (V.ref t), some (V.ref D), some (V.int (i : Nat))] = [some (V.ref h), some (V.ref p), some (V.int w), some (V.ref t), some (V.ref D), x5] ∧ Same H1 (upd H3 D (.lst (L.map V.int ++ [V.int x]))) ∧ upd H3 D (.lst (L.map V.int ++ [V.int x])) D = some (.lst (L'.map V.int)) ∧ IsLs (i + 1) w P ks L' := fun {x} h => by
        refine ⟨_, L ++ [x], rfl, fun b o e => ?_, by rw [upd_same, map_one], h⟩
        rw [upd_ne (ne_of_none e nD)]
        exact s3 _ _ e
      have hsz : (L.map V.int).length < sizeLine := by rw [List.length_map, sizeLine_eq]; omega
      refine ⟨_, rfl, _, rfl, p, _, rfl, .inr (SqT.of ep3), rfl, nv_flat _, _, rfl, ?_⟩
      rw [if_neg Bool.false_ne_true, inV_nv]
      by_cases hin : i ∈ P
      · rw [decide_eq_true hin]
        refine iteT ?_
        exact ⟨_, rfl, .inl ⟨rfl, _, SqL.of e3⟩, _, rfl, _, rfl, h, _, _, _, rfl, rfl, SqT.of eh3, key_atI hi2, D, _, _, rfl, rfl, e3, hsz, fin (hL.step (fun _ => rfl) (fun z => absurd hin z) (fun z => absurd hin z))⟩
      · rw [decide_eq_false hin]
        refine iteF ?_
        refine ⟨_, rfl, rfl, _, rfl, ?_⟩
        by_cases h0 : i = 0
        · refine ite_b (c := true) (decide_eq_true (show V.int (i : Nat) = V.int 0 by rw [h0]; rfl)) (iteT ?_)
          exact ⟨_, rfl, .inl ⟨rfl, _, SqL.of e3⟩, _, rfl, D, _, _, rfl, rfl, e3, hsz, fin (hL.step (fun z => absurd z hin) (fun _ _ => rfl) (fun _ z => by omega))⟩
        · refine ite_b (c := false) (decide_eq_false (show ¬ V.int (i : Nat) = V.int 0 by intro z; injection z with z; omega)) (iteF ?_)
          have hp := par_lt (w := w) (i := i) (by omega)
          refine ⟨_, rfl, .inl ⟨rfl, _, SqL.of e3⟩, _, rfl, _, rfl, t, dx, _, rfl, s3 _ _ h1, noP, _, rfl, t, ks.length, w, i, rfl, t1.same s3, hi2, ?_⟩
          unfold parV
          rw [if_neg h0]
          exact ⟨D, _, _, _, rfl, rfl, SqL.of e3, key_atI (by omega), D, _, _, rfl, rfl, e3, hsz, fin (hL.step (fun z => absurd z hin) (fun _ z => absurd z h0) (fun _ _ => rfl))⟩
    rintro σ' H3 ⟨x5, L, rfl, s3, e3, hL⟩
    exact ⟨_, rfl, D, _, rfl, .inl ⟨SqL.of e3, fun u nu => q _ u L (s1.trans (s3.trans (Same.up nu))) upd_same hL⟩⟩
theorem b_rwl (T : Tx K mg A) : L2.Binds K A.d_row_with_least ["heap", "places", "arms"] [] := T.F_row_with_least.binds fun _ _ _ _ _ _ us hl => match us, hl with | [_, _, _], _ => rfl

end
end Tw

set_option Elab.async false
set_option linter.all false
set_option maxRecDepth 100000
set_option maxHeartbeats 2000000
namespace Tw
open PySem PySem.Spec PyProof.Rows L2
section
variable {P : Program} {w : World} {K : PySem.W.Frag} {mg : Str → Option Value} {base : Heap} {A : Ad}
open LamX (ExtN Tabs TabS)
theorem b_gi (T : Tx K mg A) : L2.Binds K A.d_t___getitem__ ["self", "place"] [] := T.F_t___getitem__.binds fun _ _ _ _ _ _ us hl => match us, hl with | [_, _], _ => rfl
theorem b_len (T : Tx K mg A) : L2.Binds K A.d_t___len__ ["self"] [] := T.F_t___len__.binds fun _ _ _ _ _ _ us hl => match us, hl with | [_], _ => rfl
theorem ixN_nat {n p : Nat} (h : p < n) : ixN n (p : Int) = some p := by
  unfold ixN
  rw [if_pos (by omega), if_pos (by omega), Int.toNat_natCast]
theorem keyAt_set {ks : List Int} {a p : Nat} {v : Int} (ha : a < ks.length) : keyAt (ks.set a v) p = if p = a then v else keyAt ks p := by
  unfold keyAt
  rw [List.getD_eq_getElem?_getD, List.getD_eq_getElem?_getD, List.getElem?_set]
  by_cases h : a = p
  · rw [if_pos h, if_pos (by omega), if_pos h.symm]
    rfl
  · rw [if_neg h, if_neg (fun z => h z.symm)]
/-- the children of a place, as the program cuts them -/
def kids (n w i : Nat) : List V := cutV (pl n) (some ((i : Int) * (w : Int) + 1)) (some ((i : Int) * (w : Int) + 1 + (w : Int)))
def kidsN (n w i : Nat) : List Nat := ((List.range n).drop (min (i * w + 1) n)).take (min (i * w + 1 + w) n - min (i * w + 1) n)
theorem kids_eq (n w i : Nat) : kids n w i = vi (kidsN n w i) := by
  unfold kids cutV kidsN
  rw [pl_len, show ((i : Int) * (w : Int) + 1) = ((i * w + 1 : Nat) : Int) by push_cast; rfl, show (((i * w + 1 : Nat) : Int) + (w : Int)) = ((i * w + 1 + w : Nat) : Int) by push_cast; rfl, HT.sIx_nat, HT.sIx_nat]
  unfold vi pl
  rw [List.map_take, List.map_drop]
theorem kids_same : ∀ n, n < 13 → ∀ w, w < 5 → ∀ i, i < n → 1 ≤ w → kidsN n w i = kidL n w i := by decide +kernel
def spGi (C : Addr) : Sp := fun vs H Q _ => ∃ (p n w i : Nat), vs = [.ref p, .int i] ∧ TreeAt C H p n w ∧ i < n ∧ ∀ H' q, Same H H' → H' q = some (.tup (kids n w i)) → Q (.ref q) H'
theorem ok_gi (T : Tx K mg A) : FnOk P w K mg base CX0 4 A.f_t___getitem__ A.d_t___getitem__ ["self", "place"] (spGi A.C) := by
  refine T.F_t___getitem__.ok sc_t___getitem__ (fun vs H Q E h => ?_) (fun cdv B outer s H vs Q E hr h => ?_)
  · obtain ⟨p, n, w, i, rfl, _⟩ := h
    rfl
  · obtain ⟨p, n, w, i, rfl, t, hi, q⟩ := h
    obtain ⟨dx, l, h1, h2⟩ := t.ob
    refine ⟨_, pss_cons (ps_expr (pe_call (ok_cp T) hr (by rfl) T.m_check_place T.F_check_place.kp (b_cp T) .nil pass0 (pa_cons (pv 1) (pa_cons (pe_fld (pv 0) rfl) pa_nil))))
      (pss_cons (ps_set (i := 2) sc_t___getitem__.nd rfl (Or.inl rfl) (pe_op op_add (pe_op op_mul (pv 1) (pe_fld (pv 0) rfl)) pe_int))
      (pss_one (ps_ret (pe_slice sl_tup (pe_fld (pv 0) rfl) (po_some (pv 2)) (po_some (pe_op op_add (pv 2) (pe_fld (pv 0) rfl))))))), ?_⟩
    refine ⟨_, rfl, _, rfl, p, A.C, dx, _, _, rfl, h1, T.cT, T.nMany, tf_many _ _ _, _, _, rfl, ⟨by omega, by omega⟩, ?_⟩
    refine ⟨_, rfl, _, rfl, p, A.C, dx, _, _, rfl, h1, T.cT, T.nArms, tf_arms _ _ _, _, _, rfl, rfl, .inl ⟨by have := t.hn; omega, by have := t.hn; omega⟩, _, _, rfl, rfl, ?_⟩
    refine ⟨_, rfl, p, A.C, dx, _, _, rfl, h1, T.cT, T.nPl, tf_pl _ _ _, ?_⟩
    refine ⟨_, rfl, _, rfl, _, rfl, _, rfl, p, A.C, dx, _, _, rfl, h1, T.cT, T.nArms, tf_arms _ _ _, _, _, rfl, rfl, _, rfl, ?_⟩
    refine ⟨l, pl n, rfl, SqT.of h2, fun z => ?_, fun r hr0 => q _ r (Same.up hr0) upd_same⟩
    have z1 := z.1
    rw [pl_len, show ((i : Int) * (w : Int) + 1) = ((i * w + 1 : Nat) : Int) by push_cast; rfl, HT.sIx_nat] at z1
    omega
def spLen (C : Addr) : Sp := fun vs H Q _ => ∃ (p n w : Nat), vs = [.ref p] ∧ TreeAt C H p n w ∧ Q (.int n) H
theorem ok_len (T : Tx K mg A) : FnOk P w K mg base CX0 2 A.f_t___len__ A.d_t___len__ ["self"] (spLen A.C) := by
  refine T.F_t___len__.ok sc_t___len__ (fun vs H Q E h => ?_) (fun cdv B outer s H vs Q E hr h => ?_)
  · obtain ⟨p, n, w, rfl, _⟩ := h
    rfl
  · obtain ⟨p, n, w, rfl, t, q⟩ := h
    obtain ⟨dx, l, h1, h2⟩ := t.ob
    refine ⟨_, pss_one (ps_ret (pe_callB call_len_seq (by rfl) T.g_len PySem.boot_len (pa_cons (pe_fld (pv 0) rfl) pa_nil))), ?_⟩
    refine ⟨_, rfl, p, A.C, dx, _, _, rfl, h1, T.cT, T.nPl, tf_pl _ _ _, l, _, rfl, .inr (SqT.of h2), ?_⟩
    rw [pl_len]
    exact q
theorem pl_at {n i : Nat} {x : V} (h : (pl n)[i]? = some x) : i < n ∧ x = V.int (i : Nat) := by
  unfold pl at h
  rw [List.getElem?_map] at h
  by_cases hi : i < n
  · rw [List.getElem?_range hi] at h
    exact ⟨hi, (Option.some.inj h).symm⟩
  · rw [List.getElem?_eq_none (by rw [List.length_range]; omega)] at h
    cases h
theorem rep_flat (n : Nat) (k : Int) : (List.replicate n [V.int k]).flatten = (List.replicate n k).map V.int := by
  induction n with
  | zero => rfl
  | succ n ih =>
    rw [List.replicate_succ, List.flatten_cons, ih, List.replicate_succ, List.map_cons]
    rfl
theorem vi_at {l : List Nat} {i : Nat} {x : V} (h : (vi l)[i]? = some x) : i < l.length ∧ x = V.int ((l.getD i 0 : Nat) : Int) := by
  unfold vi at h
  rw [List.getElem?_map] at h
  cases e : l[i]? with
  | none => rw [e] at h; cases h
  | some a =>
    rw [e] at h
    have hi := (List.getElem?_eq_some_iff.mp e).1
    refine ⟨hi, ?_⟩
    rw [List.getD_eq_getElem?_getD, e]
    exact (Option.some.inj h).symm
theorem vi_len (l : List Nat) : (vi l).length = l.length := by unfold vi; rw [List.length_map]
end
end Tw

set_option Elab.async false
set_option linter.all false
set_option maxRecDepth 100000
set_option maxHeartbeats 2000000
namespace Tw
open PySem PySem.Spec PyProof.Rows L2
section
variable {P : Program} {w : World} {K : PySem.W.Frag} {mg : Str → Option Value} {base : Heap} {A : Ad}
open LamX (ExtN Tabs TabS)
/-! row_with_greatest: ok_rwl IsLs keyAt_set kids_eq kids_same pl_at walk_rev vi_at vi_len rep_flat ixN_nat call_listO spLen inV_nv nv_flat TreeAt.same tf_no plAt pl_len Acc Acc.push Acc.start ok_gi ok_len ok_iter small1000 -/
structure GsI (n w : Nat) (P : List Nat) (ks : List Int) (j : Nat) (G : List Int) : Prop where
  len : G.length = n
  lo : ∀ i, i + j < n → keyAt G i = 1000000000
  eq : ∀ i, n ≤ i + j → i < n → (i ∈ P → keyAt G i = keyAt ks i) ∧ (i ∉ P → kidL n w i = [] → keyAt G i = 1000000000) ∧ (i ∉ P → kidL n w i ≠ [] → (∃ c ∈ kidL n w i, keyAt G i = keyAt G c) ∧ ∀ c ∈ kidL n w i, keyAt G i ≤ keyAt G c)
theorem GsI.is {n w : Nat} {P : List Nat} {ks G : List Int} (h : GsI n w P ks n G) : IsGs n w P ks G := ⟨h.len, fun i hi => h.eq i (by omega) hi⟩
theorem kSet (ks : List Int) (p : Nat) (x : Int) (c : Nat) (hp : p < ks.length) : keyAt (ks.set p x) c = if c = p then x else keyAt ks c := by
  unfold keyAt
  rw [List.getD_eq_getElem?_getD, List.getD_eq_getElem?_getD, List.getElem?_set]
  by_cases h : p = c
  · rw [if_pos h, if_pos h.symm, if_pos hp]
    rfl
  · rw [if_neg h, if_neg (fun z => h z.symm)]
theorem GsI.step {n w j : Nat} {P : List Nat} {ks G : List Int} {x : Int} (hw : 1 ≤ w) (h : GsI n w P ks j G) (hj : j < n)
    (h1 : n - 1 - j ∈ P → x = keyAt ks (n - 1 - j)) (h2 : n - 1 - j ∉ P → kidL n w (n - 1 - j) = [] → x = 1000000000)
    (h3 : n - 1 - j ∉ P → kidL n w (n - 1 - j) ≠ [] → (∃ c ∈ kidL n w (n - 1 - j), x = keyAt G c) ∧ ∀ c ∈ kidL n w (n - 1 - j), x ≤ keyAt G c) : GsI n w P ks (j + 1) (G.set (n - 1 - j) x) := by
  have hl := h.len
  have hk : ∀ i c, n - 1 - j ≤ i → c ∈ kidL n w i → keyAt (G.set (n - 1 - j) x) c = keyAt G c := fun i c hi hc => by
    have := kid_gt hw hc
    rw [kSet _ _ _ _ (by omega), if_neg (by omega)]
  refine ⟨by rw [List.length_set]; exact hl, fun i hi => ?_, fun i hi hn => ?_⟩
  · rw [kSet _ _ _ _ (by omega), if_neg (by omega)]
    exact h.lo i (by omega)
  · by_cases c : i = n - 1 - j
    · have e : keyAt (G.set (n - 1 - j) x) i = x := by rw [kSet _ _ _ _ (by omega), if_pos c]
      rw [e]
      rw [← c] at h1 h2 h3
      refine ⟨h1, h2, fun a b => ?_⟩
      obtain ⟨⟨k, hk1, ek⟩, z⟩ := h3 a b
      refine ⟨⟨k, hk1, by rw [hk i k (by omega) hk1]; exact ek⟩, fun k hk1 => by rw [hk i k (by omega) hk1]; exact z k hk1⟩
    · have e : keyAt (G.set (n - 1 - j) x) i = keyAt G i := by rw [kSet _ _ _ _ (by omega), if_neg c]
      rw [e]
      obtain ⟨a1, a2, a3⟩ := h.eq i (by omega) hn
      refine ⟨a1, a2, fun a b => ?_⟩
      obtain ⟨⟨k, hk1, ek⟩, z⟩ := a3 a b
      refine ⟨⟨k, hk1, by rw [hk i k (by omega) hk1]; exact ek⟩, fun k hk1 => by rw [hk i k (by omega) hk1]; exact z k hk1⟩
theorem GsI.skip {n w j : Nat} {P : List Nat} {ks G : List Int} (hw : 1 ≤ w) (h : GsI n w P ks j G) (hj : j < n) (hP : n - 1 - j ∉ P) (h0 : kidL n w (n - 1 - j) = []) : GsI n w P ks (j + 1) G := by
  refine ⟨h.len, fun i hi => h.lo i (by omega), fun i hi hn => ?_⟩
  by_cases c : i = n - 1 - j
  · subst c
    exact ⟨fun a => absurd a hP, fun _ _ => h.lo _ (by omega), fun _ b => absurd h0 b⟩
  · exact h.eq i (by omega) hn
theorem vi_look {l : List Nat} {i : Nat} {x : V} (h : (vi l)[i]? = some x) : ∃ hi : i < l.length, x = V.int (l[i] : Nat) := by
  unfold vi at h
  rw [List.getElem?_map] at h
  cases e : l[i]? with
  | none =>
    rw [e] at h
    cases h
  | some u =>
    rw [e] at h
    obtain ⟨hi, rfl⟩ := List.getElem?_eq_some_iff.mp e
    exact ⟨hi, (Option.some.inj h).symm⟩
def spRwg : Sp := fun vs H Q _ => ∃ (h p w : Nat) (ks : List Int) (P : List Nat), vs = [.ref h, .ref p, .int w] ∧ (1 ≤ w ∧ w ≤ 4) ∧ H h = some (.tup (ks.map V.int)) ∧ ks.length ≤ 12 ∧ (∀ z ∈ ks, -1000000000 ≤ z ∧ z ≤ 1000000000) ∧ H p = some (.tup (nv P)) ∧
  ∀ (H' : Hp) (q : Addr) (G : List Int), Same H H' → H' q = some (.tup (G.map V.int)) → IsGs ks.length w P ks G → Q (.ref q) H'
theorem ok_rwg (T : Tx K mg A) : FnOk P w K mg base CX0 8 A.f_row_with_greatest A.d_row_with_greatest ["heap", "places", "arms"] spRwg := by
  obtain ⟨mo, ko⟩ := kb_of T
  refine T.F_row_with_greatest.ok sc_row_with_greatest (fun vs H Q E h => ?_) (fun cdv B outer s H vs Q E hr h => ?_)
  · obtain ⟨h, p, w, ks, P, rfl, _⟩ := h
    rfl
  · obtain ⟨h, p, w, ks, P, rfl, hw, eh, h12, hbd, ep, q⟩ := h
    have nd := sc_row_with_greatest.nd
    obtain ⟨_, hg_GREATEST_KEY⟩ := cst T.c_GREATEST_KEY
    have hu := hr.units
    refine ⟨_, (C8.pss_cut (ps_set (i := 3) nd rfl (Or.inl rfl) (pe_cmethK (pe_glob (v := .ref A.C) (by rfl) T.mC (relR _)) T.cr T.cof (ok_of T) (hr.mono (by decide)) ko pass0 (pa_cons (pv 0) pa_nil) (pk_cons (pv 2) pk_nil)))
      (C8.pss_cut (ps_set (i := 4) nd rfl (Or.inr rfl) (pe_op op_rep (pe_lst (pa_cons (pe_glob (by rfl) hg_GREATEST_KEY (relI _ _)) pa_nil)) (pe_callB (r := rLn K) call_len_seq (by rfl) T.g_len PySem.boot_len (pa_cons (pv 0) pa_nil))))
      (C8.pss_cut (ps_for PassesOwn.never rfl (pi_reversed (by rfl) T.g_reversed (pa_cons (pe_callTy (call_listO T.D_t___iter__ (ok_iter T) (b_iter T) T.D_t___len__ (ok_len T) (b_len T) (hr.mono (by decide))) (by rfl) T.g_list (by decide +kernel) (pa_cons (pv 3) pa_nil)) pa_nil)) (pg_name (i := 5) nd rfl (Or.inl rfl)) (pss_one (ps_if (pt_cmpR (r := L2.rIn K false) op_in_seq (pv 5) (pv 1) (by rfl)) (pss_one (ps_asg (pe_ix (r := rIxT K) ix_tup (pv 0) (pv 5) (fun _ _ => rfl)) (pg_sub (pv 4) (pv 5) set_list))) (pss_one (ps_if (pt_truL (K := K) rfl (pe_gi T.D_t___getitem__ (ok_gi T) (hr.mono (by decide)) (b_gi T) pass0 (pv 3) (pv 5)) (fun _ => rfl)) (pss_one (ps_asg (pe_callB (r := rMin K) (cr_min rfl) (by rfl) T.g_min (by decide +kernel) (pa_cons (pe_lc (own := [("child", 6)]) (g := gName 6) (tt := tYes) rfl nd (pi_tup (pe_gi T.D_t___getitem__ (ok_gi T) (hr.mono (by decide)) (b_gi T) pass0 (pv 3) (pv 5))) (blkOk_by (own := [("child", 6)]) (N := ["heap", "places", "arms", "tree", "row", "place", "child"]) (sc := defScope s_row_with_greatest) (by decide +kernel)) (fun _ _ _ _ _ => pg_name (i := 6) nd rfl (Or.inl rfl)) (fun _ _ _ _ _ => pts_nil) (fun _ _ _ _ _ => (pe_ix (r := rIxL K) ix_list (pv 4) (pv 6) (fun _ _ => rfl)))) pa_nil)) (pg_sub (pv 4) (pv 5) set_list))) pss_nil)))))
      (pss_one (ps_ret (pe_callTy (r := rTupK K) call_tupleK (by rfl) T.g_tuple (by decide +kernel) (pa_cons (pv 4) pa_nil))))))), ?_⟩
    refine ⟨fun σ' H' => ∃ t : Addr, σ' = [some (.ref h), some (.ref p), some (.int w), some (.ref t), none, none, none] ∧ Same H H' ∧ TreeAt A.C H' t ks.length w, ?_, ?_⟩
    · refine ⟨rfl, _, rfl, _, rfl, rfl, rfl, h, w, ks, rfl, hw, .inr eh, h12, hbd, fun H2 tr s2 p0 t2 => ⟨tr, rfl, s2, t2⟩⟩
    rintro σ' H1 ⟨t, rfl, s1, t1⟩
    refine ⟨fun σ' H' => ∃ D : Addr, σ' = [some (.ref h), some (.ref p), some (.int w), some (.ref t), some (.ref D), none, none] ∧ Same H1 H' ∧ H1 D = none ∧ H' D = some (.lst ((List.replicate ks.length (1000000000 : Int)).map V.int)), ?_, ?_⟩
    · refine ⟨by show 1 ≤ sizeLine; decide, fun u nu => ⟨_, rfl, h, _, rfl, .inr (SqT.of ((Same.up nu) _ _ (s1 _ _ eh))), ?_⟩⟩
      refine ⟨u, _, _, rfl, rfl, upd_same, by rw [List.length_map]; omega, by rw [List.length_map]; omega, by rw [List.length_map, Int.toNat_natCast, sizeLine_eq]; show 1 * _ ≤ _; omega, fun D nD => ⟨D, rfl, (Same.up nu).trans (Same.up nD), (Same.up nu).free nD, ?_⟩⟩
      rw [upd_same, List.length_map, Int.toNat_natCast, rep_flat]
    rintro σ' H2 ⟨D, rfl, s2, nD, eD⟩
    have t2 := t1.same s2
    obtain ⟨dx, l, h1, h2⟩ := id t2.ob
    have hn := t2.hn
    refine ⟨fun σ' H' => ∃ (x5 : Option V) (G : List Int), σ' = [some (.ref h), some (.ref p), some (.int w), some (.ref t), some (.ref D), x5, none] ∧ Same H1 H' ∧ H' D = some (.lst (G.map V.int)) ∧ IsGs ks.length w P ks G, ?_, ?_⟩
    · refine ⟨_, rfl, t, dx, _, l, pl ks.length, rfl, h1, tf_pl _ _ _, SqT.of h2, by rw [pl_len]; omega, ⟨t, ks.length, w, rfl, t2, ks.length, rfl, by omega, rfl⟩, fun c nc => ?_⟩
      have s3 := Same.up (o := .lst (pl ks.length)) nc
      have ec : upd H2 c (.lst (pl ks.length)) c = some (.lst (pl ks.length)) := upd_same
      have hcD : D ≠ c := ne_of_none eD nc
      generalize upd H2 c (.lst (pl ks.length)) = H3 at s3 ec
      refine ⟨c, _, rfl, SqL.of ec, ?_⟩
      refine for_it (walk_rev (xs := pl ks.length)) (fun j σ' H' => ∃ (x5 : Option V) (G : List Int), σ' = [some (.ref h), some (.ref p), some (.int w), some (.ref t), some (.ref D), x5, none] ∧ Same H1 H' ∧ H' c = some (.lst (pl ks.length)) ∧ H' D = some (.lst (G.map V.int)) ∧ GsI ks.length w P ks j G)
        ⟨none, _, rfl, s2.trans s3, ec, s3 _ _ eD, ⟨List.length_replicate, fun i hi => by unfold keyAt; rw [List.getD_eq_getElem?_getD, List.getElem?_replicate, if_pos (by omega)]; rfl, fun i hi hn => by omega⟩⟩ (fun i σ' H' _ ⟨_, _, _, _, e, _⟩ => SqL.of e) ?_ (fun σ' H' h => by
          rw [pl_len] at h
          obtain ⟨x5, G, e, s, _, eG, hG⟩ := h
          exact ⟨x5, G, e, s, eG, hG.is⟩)
      rintro j y σ' Ho H4 hj ⟨x5, G, rfl, s4, ec4, e4, hG⟩ ⟨rfl, hy⟩
      rw [pl_len] at hj hy
      obtain ⟨_, rfl⟩ := pl_at hy
      have hpn : ks.length - 1 - j < ks.length := by omega
      have hgl := hG.len
      have ep4 := s4 _ _ (s1 _ _ ep)
      have eh4 := s4 _ _ (s1 _ _ eh)
      generalize hii : ks.length - 1 - j = i at hpn
      have fin : ∀ {H5 : Hp} {x6 : Option V} {x : Int}, Same H4 H5 → GsI ks.length w P ks (j + 1) (G.set i x) → ∃ (x5 : Option V) (G' : List Int), [some (V.ref h), some (V.ref p), some (V.int w), some (V.ref t), some (V.ref D), some (V.int (i : Nat)), none] = [some (V.ref h), some (V.ref p), some (V.int w), some (V.ref t), some (V.ref D), x5, none] ∧ Same H1 (upd H5 D (.lst ((G.map V.int).set i (V.int x)))) ∧ upd H5 D (.lst ((G.map V.int).set i (V.int x))) c = some (.lst (pl ks.length)) ∧ upd H5 D (.lst ((G.map V.int).set i (V.int x))) D = some (.lst (G'.map V.int)) ∧ GsI ks.length w P ks (j + 1) G' := fun {H5 x6 x} s5 h => by
        refine ⟨_, G.set i x, rfl, fun b o e => ?_, ?_, by rw [upd_same, List.map_set], h⟩
        · rw [upd_ne (ne_of_none e nD)]
          exact s5 _ _ (s4 _ _ e)
        · rw [upd_ne hcD.symm]
          exact s5 _ _ ec4
      have hixn : ixN (G.map V.int).length (i : Int) = some i := ixN_nat (by rw [List.length_map]; omega)
      refine ⟨_, rfl, _, rfl, p, _, rfl, .inr (SqT.of ep4), rfl, nv_flat _, _, rfl, ?_⟩
      rw [if_neg Bool.false_ne_true, inV_nv]
      by_cases hin : i ∈ P
      · rw [decide_eq_true hin]
        refine iteT ?_
        exact ⟨_, rfl, _, rfl, h, _, _, _, rfl, rfl, SqT.of eh4, key_atI hpn, _, rfl, _, rfl, D, _, _, i, rfl, rfl, e4, hixn, fin (x6 := x5) (Same.refl _) (hii ▸ hG.step hw.1 hj (fun _ => by rw [hii]) (fun z => absurd (hii ▸ hin) z) (fun z => absurd (hii ▸ hin) z))⟩
      · rw [decide_eq_false hin]
        refine iteF ?_
        have t4 := t1.same s4
        obtain ⟨dx4, l4, g1, g2⟩ := id t4.ob
        refine ⟨_, rfl, _, rfl, t, dx4, _, rfl, g1, t, ks.length, w, i, rfl, t4, hpn, fun H5 ch s5 hch => ?_⟩
        rw [kids_eq, kids_same ks.length (by omega) w (by omega) i hpn hw.1] at hch
        refine ⟨!(vi (kidL ks.length w i)).isEmpty, .inr (.inl ⟨_, SqT.of hch, rfl⟩), ?_⟩
        by_cases h0 : kidL ks.length w i = []
        · rw [h0]
          exact iteF ⟨_, G, rfl, s4.trans s5, s5 _ _ ec4, s5 _ _ e4, hG.skip hw.1 hj (by rw [hii]; exact hin) (by rw [hii]; exact h0)⟩
        · have e0 : (!(vi (kidL ks.length w i)).isEmpty) = true := by
            cases e : kidL ks.length w i with
            | nil => exact absurd e h0
            | cons a b => rfl
          rw [e0]
          have t5 := t4.same s5
          refine iteT ⟨_, rfl, _, rfl, t, dx4, _, rfl, s5 _ _ g1, t, ks.length, w, i, rfl, t5, hpn, fun H6 ch2 s6 hch2 => ?_⟩
          rw [kids_eq, kids_same ks.length (by omega) w (by omega) i hpn hw.1] at hch2
          have s46 := s5.trans s6
          have e6 := s46 _ _ e4
          refine ⟨ch2, rfl, ⟨_, SqT.of hch2⟩, fun D2 nD2 => ?_⟩
          have hkl : (kidL ks.length w i).length ≤ 12 := by
            unfold kidL
            rw [List.length_map]
            have := List.length_filter_le (fun j => decide (j / w = i)) (List.range (ks.length - 1))
            rw [List.length_range] at this
            omega
          refine lc_it (walk_tup (xs := vi (kidL ks.length w i))) (fun m H' => Acc H6 D2 ((((kidL ks.length w i).take m).map (keyAt G)).map V.int) H') (Acc.start nD2) (fun m H' _ ac => SqT.of (ac.s _ _ hch2)) ?_ ?_
          · rintro m y Hp H7 hm ac ⟨rfl, hy2⟩
            obtain ⟨hm2, rfl⟩ := vi_look hy2
            have hcl := (kid_gt hw.1 (List.getElem_mem hm2)).2.1
            refine ⟨rfl, iteT (B := Acc H6 D2 ((((kidL ks.length w i).take (m + 1)).map (keyAt G)).map V.int) H7) ?_⟩
            refine ⟨_, rfl, _, rfl, D, _, _, _, rfl, rfl, SqL.of (ac.s _ _ e6), key_atI (by omega), _, ac.a, by rw [List.length_map, List.length_map, List.length_take, sizeLine_eq]; omega, ?_⟩
            rw [List.take_succ_eq_append_getElem hm2, List.map_append, List.map_append]
            exact ac.push
          · intro H7 ac
            rw [vi_len, List.take_length] at ac
            refine ⟨D2, _, rfl, SqL.of ac.a, by rw [List.length_map]; exact List.length_pos_iff.mpr h0, fun m hm hle => ?_⟩
            refine ⟨_, rfl, _, rfl, D, _, _, i, rfl, rfl, ac.s _ _ e6, hixn, fin (x6 := x5) (s46.trans ac.s) ?_⟩
            rw [← hii]
            refine hG.step hw.1 hj (fun z => absurd (hii ▸ z) hin) (fun _ z => absurd (hii ▸ z) h0) (fun _ _ => ?_)
            rw [hii]
            obtain ⟨c2, hc2, ec2⟩ := List.mem_map.mp hm
            exact ⟨⟨c2, hc2, ec2.symm⟩, fun c3 hc3 => hle _ (List.mem_map.mpr ⟨c3, hc3, rfl⟩)⟩
    rintro σ' H3 ⟨x5, G, rfl, s3, e3, hG⟩
    exact ⟨_, rfl, D, _, rfl, .inl ⟨SqL.of e3, fun u nu => q _ u G (s1.trans (s3.trans (Same.up nu))) upd_same hG⟩⟩
theorem b_rwg (T : Tx K mg A) : L2.Binds K A.d_row_with_greatest ["heap", "places", "arms"] [] := T.F_row_with_greatest.binds fun _ _ _ _ _ _ us hl => match us, hl with | [_, _, _], _ => rfl

end
end Tw

set_option Elab.async false
set_option linter.all false
set_option maxRecDepth 100000
set_option maxHeartbeats 2000000
namespace Tw
open PySem PySem.Spec PyProof.Rows L2
section
variable {P : Program} {w : World} {K : PySem.W.Frag} {mg : Str → Option Value} {base : Heap} {A : Ad}
open LamX (ExtN Tabs TabS)
theorem cut_to (xs : List V) (k : Nat) : cutV xs none (some (k : Int)) = xs.take k := by
  unfold cutV
  rw [HT.sIx_none, HT.sIx_nat, List.drop_zero, Nat.sub_zero]
  rcases Nat.le_total k xs.length with h | h
  · rw [Nat.min_eq_left h]
  · rw [Nat.min_eq_right h, List.take_length, List.take_of_length_le h]
/-- what stood before an instance was made stands behind its making -/
theorem new_same {C x dx : Addr} {H H' : Hp} (nx : H x = none) (ndx : H dx = none) (k : ∀ b o, (upd (upd H dx (.own x)) x (.ins C dx [])) b = some o → b ≠ x → H' b = some o) : Same H H' := fun b o e => by
  refine k b o ?_ (ne_of_none e nx)
  rw [upd_ne (ne_of_none e nx), upd_ne (ne_of_none e ndx)]
  exact e
theorem q1 : ¬ (("row" : Str) = "stops") := by decide +kernel
theorem q2 : ¬ (("row" : Str) = "changes") := by decide +kernel
end
end Tw

set_option Elab.async false
set_option linter.all false
set_option maxRecDepth 100000
set_option maxHeartbeats 2000000
namespace Tw
open PySem PySem.Spec PyProof.Rows L2
section
variable {P : Program} {w : World} {K : PySem.W.Frag} {mg : Str → Option Value} {base : Heap} {A : Ad}
open LamX (ExtN Tabs TabS)
/-! judging: ok_hpl ok_rwl ok_rwg IsLs IsGs fault_heap HpC PSet2 settles_of ls_agr gs_agr srtI_one intsL_eqv ints_dp shaped_ints AtG AtU AtG.same AtU.same new_same cut_to walk_tup Acc -/
def JdAt (A : Ad) (H : Hp) (o : Addr) (w : Nat) (P : List Nat) (ks : List Int) (c : Nat) : Prop := (Settles ks.length w P ks c ∧ AtG A.CG H o ((srtI ks).take c)) ∨ (¬ Settles ks.length w P ks c ∧ ∃ late, Agr ks.length w P ks late ∧ (srtI late).take c ≠ (srtI ks).take c ∧ AtU A.CU H o late)
theorem JdAt.same {A : Ad} {H H' : Hp} {o w c : Nat} {P : List Nat} {ks : List Int} (h : JdAt A H o w P ks c) (s : Same H H') : JdAt A H' o w P ks c := h.imp (fun ⟨a, b⟩ => ⟨a, b.same s⟩) (fun ⟨a, l, b, d, e⟩ => ⟨a, l, b, d, e.same s⟩)
theorem agr_self {w : Nat} {P : List Nat} {ks : List Int} {H : Hp} {r c : Nat} (h : HpC H r c w ks) : Agr ks.length w P ks ks := ⟨rfl, h.row.2.2, fault_heap h.hw h.row.2.1 rfl h.flt, fun _ _ => rfl⟩
def spJp (A : Ad) : Sp := fun vs H Q _ => ∃ (r c p w : Nat) (ks : List Int) (P : List Nat), vs = [.ref r, .int c, .ref p, .int w] ∧ HpC H r c w ks ∧ H p = some (.tup (nv P)) ∧ PSet2 ks.length P ∧ ∀ H' o, Same H H' → JdAt A H' o w P ks c → Q (.ref o) H'
theorem ok_jp (T : Tx K mg A) : FnOk P w K mg base CX0 11 A.f_judge_places A.d_judge_places ["row", "count", "places", "arms"] (spJp A) := by
  refine T.F_judge_places.ok sc_judge_places (fun vs H Q E h => ?_) (fun cdv B outer s H vs Q E hr h => ?_)
  · obtain ⟨r, c, p, w, ks, P, rfl, _⟩ := h
    rfl
  · obtain ⟨r, c, p, w, ks, P, rfl, hp, ep, hP, q⟩ := h
    have nd := sc_judge_places.nd
    have hu : (B.deeper (envOfC "judge_places" (defScope s_judge_places) s.heap.objs.size A.f_judge_places cdv)).units + 64 < cLine := hr.units
    have ag := agr_self (P := P) hp
    have hw := hp.hw
    have h12 := hp.row.2.1
    refine ⟨_, PSs.nox (C8.pss_cut (ps_set (i := 4) nd rfl (Or.inl rfl) (pe_call (ok_hpl T) (hr.mono (by decide)) (by rfl) T.m_heap_of_places T.F_heap_of_places.kp (b_hpl T) .nil pass0 (pa_cons (pv 0) (pa_cons (pv 1) (pa_cons (pv 2) (pa_cons (pv 3) pa_nil))))))
      (C8.pss_cut (ps_set (i := 5) nd rfl (Or.inl rfl) (pe_slice (r := rSlL K) sl_list (pe_callB cr_sortedTu (by rfl) T.g_sorted (by decide +kernel) (pa_cons (pv 4) pa_nil)) po_none (po_some (pv 1))))
      (C8.pss_cut (ps_for PassesOwn.never rfl (pi_tup (pe_tup (pa_cons (pe_call (ok_rwl T) (hr.mono (by decide)) (by rfl) T.m_row_with_least T.F_row_with_least.kp (b_rwl T) .nil pass0 (pa_cons (pv 4) (pa_cons (pv 2) (pa_cons (pv 3) pa_nil)))) (pa_cons (pe_call (ok_rwg T) (hr.mono (by decide)) (by rfl) T.m_row_with_greatest T.F_row_with_greatest.kp (b_rwg T) .nil pass0 (pa_cons (pv 4) (pa_cons (pv 2) (pa_cons (pv 3) pa_nil)))) pa_nil)))) (pg_name (i := 6) nd rfl (Or.inl rfl)) (pss_one (ps_if (pt_cmpR (op_neD hu) (pe_slice (r := rSlL K) sl_list (pe_callB cr_sortedTu (by rfl) T.g_sorted (by decide +kernel) (pa_cons (pv 6) pa_nil)) po_none (po_some (pv 1))) (pv 5) (nomark _)) (pss_one (ps_ret (pe_make T.mkCU (ok_iU T) (hr.mono (by decide)) (by rfl) T.mCU (b_iU T) .nil pass0 (pa_cons (pv 6) pa_nil)))) pss_nil)))
      (pss_one (ps_ret (pe_make T.mkCG (ok_iG T) (hr.mono (by decide)) (by rfl) T.mCG (b_iG T) .nil pass0 (pa_cons (pv 5) pa_nil))))))), ?_⟩
    refine ⟨fun σ' H' => ∃ h : Addr, σ' = [some (.ref r), some (.int c), some (.ref p), some (.int w), some (.ref h), none, none] ∧ Same H H' ∧ H' h = some (.tup (ks.map V.int)), ?_, ?_⟩
    · exact ⟨_, rfl, _, rfl, _, rfl, _, rfl, r, c, p, w, ks, P, rfl, hp, ep, hP, fun H1 h s1 e1 => ⟨h, rfl, s1, e1⟩⟩
    rintro σ' H1 ⟨h, rfl, s1, eh⟩
    refine ⟨fun σ' H' => ∃ u : Addr, σ' = [some (.ref r), some (.int c), some (.ref p), some (.int w), some (.ref h), some (.ref u), none] ∧ Same H1 H' ∧ H' u = some (.lst (((srtI ks).take c).map V.int)), ?_, ?_⟩
    · refine ⟨_, rfl, h, ks, rfl, SqT.of eh, fun z p1 hz1 hz2 n1 => ?_⟩
      rw [srtI_one hz1 hz2]
      have s2 := Same.up (o := .lst ((srtI ks).map V.int)) n1
      have e1 : upd H1 p1 (.lst ((srtI ks).map V.int)) p1 = some (.lst ((srtI ks).map V.int)) := upd_same
      generalize upd H1 p1 (.lst ((srtI ks).map V.int)) = H2 at s2 e1
      unfold tNoPart
      refine ⟨_, rfl, _, rfl, p1, _, rfl, SqL.of e1, fun u nu => ?_⟩
      rw [cut_to, ← List.map_take]
      exact ⟨u, rfl, s2.trans (Same.up nu), upd_same⟩
    rintro σ' H2 ⟨u, rfl, s2, eu⟩
    have ep2 := s2 _ _ (s1 _ _ ep)
    have eh2 := s2 _ _ eh
    refine ⟨fun σ' H' => (∃ x6, σ' = [some (.ref r), some (.int c), some (.ref p), some (.int w), some (.ref h), some (.ref u), x6]) ∧ Same H2 H' ∧ Settles ks.length w P ks c, ?_, ?_⟩
    · refine ⟨_, rfl, _, rfl, _, rfl, h, p, w, ks, P, rfl, hw, eh2, h12, hp.row.2.2, ep2, fun H3 q1 L s3 e3 hL => ?_⟩
      refine ⟨_, rfl, _, rfl, _, rfl, h, p, w, ks, P, rfl, hw, s3 _ _ eh2, h12, hp.row.2.2, s3 _ _ ep2, fun H4 q2 G s4 e4 hG => ?_⟩
      refine ⟨by show 2 ≤ sizeLine; decide, fun t nt => ?_⟩
      have s5 := Same.up (o := .tup [V.ref q1, V.ref q2]) nt
      have et : upd H4 t (.tup [V.ref q1, V.ref q2]) t = some (.tup [V.ref q1, V.ref q2]) := upd_same
      generalize upd H4 t (.tup [V.ref q1, V.ref q2]) = H5 at s5 et
      have e35 := s5 _ _ (s4 _ _ e3)
      have e45 := s5 _ _ e4
      have s25 := s3.trans (s4.trans s5)
      refine ⟨t, rfl, ⟨_, SqT.of et⟩, ?_⟩
      refine for_it (walk_tup (xs := [V.ref q1, V.ref q2])) (fun i σ' H' => (∃ x6, σ' = [some (.ref r), some (.int c), some (.ref p), some (.int w), some (.ref h), some (.ref u), x6]) ∧ Same H5 H' ∧ (0 < i → (srtI L).take c = (srtI ks).take c) ∧ (1 < i → (srtI G).take c = (srtI ks).take c)) ⟨⟨none, rfl⟩, Same.refl _, fun z => absurd z (Nat.not_lt_zero _), fun z => absurd z (Nat.not_lt_zero _)⟩ (fun i σ' H' _ ⟨_, s, _⟩ => SqT.of (s _ _ et)) ?_ (fun σ' H' ⟨x, s, a, b⟩ => ⟨x, s25.trans s, settles_of hw.1 rfl hL hG (a (by show 0 < 2; decide)) (b (by show 1 < 2; decide))⟩)
      rintro i y σ' Ho H6 hi ⟨⟨x6, rfl⟩, s6, a6, b6⟩ ⟨rfl, hy⟩
      obtain ⟨qy, late, rfl, ey, al, fn⟩ : ∃ (qy : Addr) (late : List Int), y = .ref qy ∧ H6 qy = some (.tup (late.map V.int)) ∧ Agr ks.length w P ks late ∧ ((srtI late).take c = (srtI ks).take c → (0 < i + 1 → (srtI L).take c = (srtI ks).take c) ∧ (1 < i + 1 → (srtI G).take c = (srtI ks).take c)) := by
        have hi : i < 2 := hi
        rcases (show i = 0 ∨ i = 1 by omega) with rfl | rfl
        · exact ⟨q1, L, (Option.some.inj hy).symm, s6 _ _ e35, ls_agr hL ag hP.up, fun e => ⟨fun _ => e, fun z => absurd z (by decide)⟩⟩
        · exact ⟨q2, G, (Option.some.inj hy).symm, s6 _ _ e45, gs_agr hw.1 hG ag hP.up, fun e => ⟨fun _ => a6 (by decide), fun _ => e⟩⟩
      refine ⟨_, rfl, qy, late, rfl, SqT.of ey, fun z p1 hz1 hz2 n1 => ?_⟩
      rw [srtI_one hz1 hz2]
      have s7 := Same.up (o := .lst ((srtI late).map V.int)) n1
      have e1 : upd H6 p1 (.lst ((srtI late).map V.int)) p1 = some (.lst ((srtI late).map V.int)) := upd_same
      generalize upd H6 p1 (.lst ((srtI late).map V.int)) = H7 at s7 e1
      unfold tNoPart
      refine ⟨_, rfl, _, rfl, p1, _, rfl, SqL.of e1, fun v nv' => ?_⟩
      rw [cut_to, ← List.map_take]
      have s8 := s7.trans (Same.up (o := .lst (((srtI late).take c).map V.int)) nv')
      have ev : upd H7 v (.lst (((srtI late).take c).map V.int)) v = some (.lst (((srtI late).take c).map V.int)) := upd_same
      generalize upd H7 v (.lst (((srtI late).take c).map V.int)) = H8 at s8 ev
      have eu8 := s8 _ _ (s6 _ _ (s25 _ _ eu))
      refine ⟨_, rfl, _, _, .lst (SqL.of ev) (ints_dp _ _ _), .lst (SqL.of eu8) (ints_dp _ _ _), shaped_ints _, shaped_ints _, _, rfl, ?_⟩
      rw [intsL_eqv]
      by_cases e : (srtI late).take c = (srtI ks).take c
      · rw [decide_eq_true e]
        exact iteF ⟨⟨_, rfl⟩, s6.trans s8, (fn e).1, (fn e).2⟩
      · rw [decide_eq_false e]
        refine iteT ⟨_, rfl, fun z dz nz ndz nez => ?_⟩
        have ey8 := s8 _ _ ey
        have ey9 : upd (upd H8 dz (.own z)) z (.ins A.CU dz []) qy = some (.tup (late.map V.int)) := by rw [upd_ne (ne_of_none ey8 nz), upd_ne (ne_of_none ey8 ndz)]; exact ey8
        exact ⟨z, dz, qy, late, rfl, upd_same, .inr ey9, fun G' kG atG => ⟨rfl, q _ z (s1.trans (s2.trans (s25.trans (s6.trans (s8.trans (new_same nz ndz kG)))))) (.inr ⟨fun hS => e (hS late al), late, al, e, atG⟩)⟩⟩
    rintro σ' H3 ⟨⟨x6, rfl⟩, s3, hS⟩
    have eu3 := s3 _ _ eu
    refine ⟨_, rfl, fun z dz nz ndz nez => ?_⟩
    have eu4 : upd (upd H3 dz (.own z)) z (.ins A.CG dz []) u = some (.lst (((srtI ks).take c).map V.int)) := by rw [upd_ne (ne_of_none eu3 nz), upd_ne (ne_of_none eu3 ndz)]; exact eu3
    exact ⟨z, dz, u, (srtI ks).take c, rfl, upd_same, .inl eu4, fun G' kG atG => ⟨rfl, q _ z (s1.trans (s2.trans (s3.trans (new_same nz ndz kG)))) (.inl ⟨hS, atG⟩)⟩⟩

end
end Tw

set_option Elab.async false
set_option linter.all false
set_option maxRecDepth 100000
set_option maxHeartbeats 2000000
namespace Tw
open PySem PySem.Spec PyProof.Rows L2
section
variable {P : Program} {w : World} {K : PySem.W.Frag} {mg : Str → Option Value} {base : Heap} {A : Ad}
open LamX (ExtN Tabs TabS)
/-- tuples of keys as data -/
abbrev rowD (r : List Int) : PyData := .tuple (r.map .int)
theorem rowD_eqv (r q : List Int) : PyData.eqv (rowD r) (rowD q) = decide (r = q) := by
  rw [← ints_all]
  simp [PyData.eqv]
theorem any_rowI (ls : List (List Int)) (l : List Int) : ((ls.map rowD).any fun z => PyData.eqv z (rowD l)) = decide (l ∈ ls) := by
  induction ls with
  | nil => rfl
  | cons a ls ih =>
    rw [List.map_cons, List.any_cons, ih, rowD_eqv]
    rw [Bool.eq_iff_iff, Bool.or_eq_true, decide_eq_true_eq, decide_eq_true_eq, decide_eq_true_eq, List.mem_cons]
    exact ⟨fun h => h.elim (fun e => .inl e.symm) .inr, fun h => h.elim (fun e => .inl e.symm) .inr⟩
theorem heap_fault {n w : Nat} {ks : List Int} (hl : ks.length = n) (h : HeapL n w ks) : faultL ks w = [] := by
  refine List.eq_nil_iff_forall_not_mem.mpr fun p hp => ?_
  unfold faultL at hp
  obtain ⟨h1, h2⟩ := List.mem_filter.mp hp
  unfold faultB at h2
  obtain ⟨h3, h4⟩ := Bool.and_eq_true_iff.mp h2
  have h1 := List.mem_range.mp h1
  have h3 := of_decide_eq_true h3
  have h4 := of_decide_eq_true h4
  have := h p (by omega) (by omega)
  unfold keyAt at this
  omega
theorem kb_ish (T : Tx K mg A) : ∃ mv : List Value, KBn K A.d_is_heap ["row", "arms"] 1 ["arms"] (fun us ws => us ++ (mv ++ ws)) (fun vs zs => vs ++ zs) := by
  obtain ⟨mv, h⟩ := T.F_is_heap.kbinds0 (ps := ["row", "arms"]) 1 ["arms"] [] (fun us mv ws => us ++ (mv ++ ws)) (by simp) (by simp) (fun r1 r2 r3 => r1.append (r2.append r3))
    (fun D doc pm an cdv ct us mv ws h1 h2 h3 => by
      match us, mv, ws, h1, h2, h3 with
      | [a], [], [c], _, _, _ => rfl)
  exact ⟨mv, h⟩
theorem m1 : ¬ (("row" : Str) = "way") := by decide +kernel
theorem m2 : ¬ (("row" : Str) = "looks") := by decide +kernel
def spIsH : Sp := fun vs H Q _ => ∃ (a w : Nat) (ns : List Int), vs = [.ref a, .int w] ∧ (1 ≤ w ∧ w ≤ 4) ∧ RowIn H a ns ∧ ∀ H', Same H H' → Q (.bl (decide (faultL ns w = []))) H'
theorem ok_ish (T : Tx K mg A) : FnOk P w K mg base CX0 8 A.f_is_heap A.d_is_heap ["row", "arms"] spIsH := by
  obtain ⟨mo, ko⟩ := kb_fau T
  refine T.F_is_heap.ok sc_is_heap (fun vs H Q E h => ?_) (fun cdv B outer s H vs Q E hr h => ?_)
  · obtain ⟨a, w, ns, rfl, _⟩ := h
    rfl
  · obtain ⟨a, w, ns, rfl, hw, hrow, q⟩ := h
    refine ⟨_, PSs.nox (pss_one (ps_ret (pe_notT (pe_callN (ok_fau T) hr (by rfl) T.m_faults T.F_faults.kp ko pass0 (pa_cons (pv 0) pa_nil) (pk_cons (pv 1) pk_nil))))), ?_⟩
    refine ⟨_, rfl, _, rfl, rfl, rfl, a, w, ns, rfl, hw, hrow, fun H1 r s1 r0 hr1 => ?_⟩
    refine ⟨!(vi (faultL ns w)).isEmpty, .inl ⟨_, SqL.of hr1, rfl⟩, ?_⟩
    have e : (!(!(vi (faultL ns w)).isEmpty)) = decide (faultL ns w = []) := by
      rw [Bool.not_not]
      unfold vi
      cases faultL ns w with
      | nil => rfl
      | cons x l => rfl
    rw [e]
    exact q _ s1
end
end Tw

set_option Elab.async false
set_option linter.all false
set_option maxRecDepth 100000
set_option maxHeartbeats 2000000
namespace Tw
open PySem PySem.Spec PyProof.Rows L2
section
variable {P : Program} {w : World} {K : PySem.W.Frag} {mg : Str → Option Value} {base : Heap} {A : Ad}
open LamX (ExtN Tabs TabS)
/-! does it settle; shows: JdAt agr_self settles_of heap_fault keyAt_of key_atI ok_is ok_ish spIs spKey ok_key nv_at repl_all ixN_nat AccB any_rowI ints_at faultL Sq -/
theorem kb_jp (T : Tx K mg A) : ∃ mv : List Value, KBn K A.d_judge_places ["row", "count", "places", "arms"] 3 ["arms"] (fun us ws => us ++ (mv ++ ws)) (fun vs zs => vs ++ zs) := by
  obtain ⟨mv, h⟩ := T.F_judge_places.kbinds0 (ps := ["row", "count", "places", "arms"]) 3 ["arms"] [] (fun us mv ws => us ++ (mv ++ ws)) (by simp) (by simp) (fun r1 r2 r3 => r1.append (r2.append r3))
    (fun D doc pm an cdv ct us mv ws h1 h2 h3 => by
      match us, mv, ws, h1, h2, h3 with
      | [a, b, c], [], [e], _, _, _ => rfl)
  exact ⟨mv, h⟩
def spDs : Sp := fun vs H Q _ => ∃ (r c p w : Nat) (ks : List Int) (P : List Nat), vs = [.ref r, .int c, .ref p, .int w] ∧ HpC H r c w ks ∧ H p = some (.tup (nv P)) ∧ PSet2 ks.length P ∧ ∀ (b : Bool) (H' : Hp), (b = true ↔ Settles ks.length w P ks c) → Same H H' → Q (.bl b) H'
theorem ok_ds (T : Tx K mg A) : FnOk P w K mg base CX0 12 A.f_does_settle A.d_does_settle ["row", "count", "places", "arms"] spDs := by
  obtain ⟨mjp, kjp⟩ := kb_jp T
  refine T.F_does_settle.ok sc_does_settle (fun vs H Q E h => ?_) (fun cdv B outer s H vs Q E hr h => ?_)
  · obtain ⟨r, c, p, w, ks, P, rfl, _⟩ := h
    rfl
  · obtain ⟨r, c, p, w, ks, P, rfl, hp, ep, hP, q⟩ := h
    refine ⟨_, (pss_one (ps_ret (pe_callB (r := rIsi K) call_isi (by rfl) T.g_isinstance (by decide +kernel) (pa_cons (pe_callN (ok_jp T) (hr.mono (by decide)) (by rfl) T.m_judge_places T.F_judge_places.kp kjp pass0 (pa_cons (pv 0) (pa_cons (pv 1) (pa_cons (pv 2) pa_nil))) (pk_cons (pv 3) pk_nil)) (pa_cons (pe_glob (v := .ref A.CG) (by rfl) T.mCG (relR _)) pa_nil))))), ?_⟩
    refine ⟨_, rfl, _, rfl, _, rfl, _, rfl, rfl, rfl, r, c, p, w, ks, P, rfl, hp, ep, hP, fun H1 o s1 at1 => ?_⟩
    rcases at1 with ⟨hS, dx, t0, ho, e0⟩ | ⟨hS, late, al, ne, dx, t0, ho, e0⟩
    · exact ⟨_, _, .ref A.CG, .ref A.CG, true, rfl, .own A.CG, .base (.ins ho T.cTG T.kaG T.knG T.ktkG T.kmG), (by unfold PySem.W.kitOne; rw [if_pos (by simp)]), q true H1 ⟨fun _ => hS, fun _ => rfl⟩ s1⟩
    · exact ⟨_, _, .ref A.CU, .ref A.CG, false, rfl, .own A.CG, .base (.ins ho T.cTU T.kaU T.knU T.ktkU T.kmU), T.kiG_CU, q false H1 ⟨fun z => (nomatch z), fun z => absurd z hS⟩ s1⟩
theorem kb_ds (T : Tx K mg A) : ∃ mv : List Value, KBn K A.d_does_settle ["row", "count", "places", "arms"] 3 ["arms"] (fun us ws => us ++ (mv ++ ws)) (fun vs zs => vs ++ zs) := by
  obtain ⟨mv, h⟩ := T.F_does_settle.kbinds0 (ps := ["row", "count", "places", "arms"]) 3 ["arms"] [] (fun us mv ws => us ++ (mv ++ ws)) (by simp) (by simp) (fun r1 r2 r3 => r1.append (r2.append r3))
    (fun D doc pm an cdv ct us mv ws h1 h2 h3 => by
      match us, mv, ws, h1, h2, h3 with
      | [a, b, c], [], [e], _, _, _ => rfl)
  exact ⟨mv, h⟩
/-! Settled.shows -/
def spGsh (A : Ad) : Sp := fun vs H Q _ => ∃ (o r c p w : Nat) (ks xs : List Int) (P : List Nat), vs = [.ref o, .ref r, .int c, .ref p, .int w] ∧ AtG A.CG H o xs ∧ HpC H r c w ks ∧ H p = some (.tup (nv P)) ∧ PSet2 ks.length P ∧ ∀ (b : Bool) (H' : Hp), (b = true ↔ Settles ks.length w P ks c ∧ xs = (srtI ks).take c) → Same H H' → Q (.bl b) H'
theorem ok_gsh (T : Tx K mg A) : FnOk P w K mg base CX0 12 A.f_g_shows A.d_g_shows ["self", "row", "count", "places", "arms"] (spGsh A) := by
  obtain ⟨mjp, kjp⟩ := kb_jp T
  refine T.F_g_shows.ok sc_g_shows (fun vs H Q E h => ?_) (fun cdv B outer s H vs Q E hr h => ?_)
  · obtain ⟨o, r, c, p, w, ks, xs, P, rfl, _⟩ := h
    rfl
  · obtain ⟨o, r, c, p, w, ks, xs, P, rfl, at0, hp, ep, hP, q⟩ := h
    have nd := sc_g_shows.nd
    refine ⟨_, (C8.pss_cut (ps_set (i := 5) nd rfl (Or.inl rfl) (pe_callN (ok_jp T) (hr.mono (by decide)) (by rfl) T.m_judge_places T.F_judge_places.kp kjp pass0 (pa_cons (pv 1) (pa_cons (pv 2) (pa_cons (pv 3) pa_nil))) (pk_cons (pv 4) pk_nil)))
      (pss_one (ps_ret (pe_and (pe_two (pe_cmpR (op_eq_own T.eqcG (ok_eG T) (hr.mono (by decide)) (b_eG T) pass0) (pv 5) (pv 0) (nomark _)) (pe_cmpR (op_eq_ownX (K := K) rfl T.eqcU (ok_eU T) (hr.mono (by decide)) (b_eU T) pass0) (pv 5) (pv 0) (nomark _))) (pe_one (pe_callB (cr_all rfl) (by rfl) T.g_all (by decide +kernel) (pa_cons (pe_lc (own := [("key", 6)]) (g := gName 6) (tt := tYes) rfl nd (pi_list (pe_fld (pv 0) rfl)) (blkOk_by (own := [("key", 6)]) (N := ["self", "row", "count", "places", "arms", "found", "key"]) (sc := defScope s_g_shows) (by decide +kernel)) (fun _ _ _ _ _ => pg_name (i := 6) nd rfl (Or.inl rfl)) (fun _ _ _ _ _ => pts_nil) (fun _ _ _ _ _ => (pe_call (ok_is T) (hr.mono (by decide)) (by rfl) T.m_is_integer T.F_is_integer.kp (b_is T) .nil pass0 (pa_cons (pv 6) pa_nil)))) pa_nil))))))), ?_⟩
    refine ⟨fun σ' H' => ∃ f : Addr, σ' = [some (.ref o), some (.ref r), some (.int c), some (.ref p), some (.int w), some (.ref f), none] ∧ Same H H' ∧ JdAt A H' f w P ks c, ?_, ?_⟩
    · exact ⟨_, rfl, _, rfl, _, rfl, _, rfl, rfl, rfl, r, c, p, w, ks, P, rfl, hp, ep, hP, fun H1 f s1 j1 => ⟨f, rfl, s1, j1⟩⟩
    rintro σ' H1 ⟨f, rfl, s1, j1⟩
    obtain ⟨dx0, t0, ho0, e0⟩ := id (at0.same s1)
    rcases j1 with ⟨hS, atf⟩ | ⟨hS, late, al, ne, atf⟩
    · obtain ⟨dx, t1, hf, e1⟩ := id atf
      refine .inl ⟨_, rfl, _, rfl, f, dx, _, rfl, hf, .ins ho0, f, _, _, rfl, atf, .inl ⟨o, xs, rfl, at0.same s1, _, rfl, ?_⟩⟩
      by_cases e : (srtI ks).take c = xs
      · rw [decide_eq_true e]
        refine ⟨true, rfl, iteT ?_⟩
        have h12 : xs.length ≤ 12 := by
          rw [← e, List.length_take, srtI_len]
          have := hp.row.2.1
          omega
        refine ⟨_, rfl, o, A.CG, dx0, _, _, rfl, ho0, T.cTG, T.gLeast, fdG_least _, t0, rfl, ⟨_, SqL.of e0⟩, fun D nD => ?_⟩
        refine lc_it (walk_list (xs := xs.map V.int)) (fun i H' => Acc H1 D (List.replicate i (V.bl true)) H') (Acc.start nD) (fun i H' _ ac => SqL.of (ac.s _ _ e0)) ?_ ?_
        · rintro i y Ho H2 hi ac ⟨rfl, hy⟩
          obtain ⟨hi2, rfl⟩ := ints_at hy
          refine ⟨rfl, iteT (B := Acc H1 D (List.replicate (i + 1) (V.bl true)) H2) ⟨_, rfl, _, rfl, .inl ⟨_, rfl, _, ac.a, by rw [List.length_replicate, sizeLine_eq]; omega, ?_⟩⟩⟩
          rw [List.replicate_succ']
          exact ac.push
        · intro H2 ac
          refine ⟨D, List.replicate (xs.map V.int).length true, rfl, SqL.of (by rw [ac.a, List.map_replicate]), ?_⟩
          rw [repl_all]
          exact q true H2 ⟨fun _ => ⟨hS, e.symm⟩, fun _ => rfl⟩ (s1.trans ac.s)
      · rw [decide_eq_false e]
        exact ⟨false, rfl, iteF (q false H1 ⟨fun z => (nomatch z), fun z => absurd z.2.symm e⟩ s1)⟩
    · obtain ⟨dx, t1, hf, e1⟩ := id atf
      refine .inr ⟨_, rfl, _, rfl, f, dx, _, o, A.CG, dx0, _, rfl, hf, rfl, ho0, T.kiU_CG, f, _, _, rfl, atf, .inr ⟨.ref A.CG, .base (.ins ho0 T.cTG T.kaG T.knG T.ktkG T.kmG), T.kiU_CG, _, rfl, ?_⟩⟩
      exact ⟨false, rfl, iteF (q false H1 ⟨fun z => (nomatch z), fun z => absurd z.1 hS⟩ s1)⟩
theorem kb_gsh (T : Tx K mg A) : ∃ mv : List Value, KBn K A.d_g_shows ["self", "row", "count", "places", "arms"] 4 ["arms"] (fun us ws => us ++ (mv ++ ws)) (fun vs zs => vs ++ zs) := by
  obtain ⟨mv, h⟩ := T.F_g_shows.kbinds0 (ps := ["self", "row", "count", "places", "arms"]) 4 ["arms"] [] (fun us mv ws => us ++ (mv ++ ws)) (by simp) (by simp) (fun r1 r2 r3 => r1.append (r2.append r3))
    (fun D doc pm an cdv ct us mv ws h1 h2 h3 => by
      match us, mv, ws, h1, h2, h3 with
      | [a, b, c, d], [], [e], _, _, _ => rfl)
  exact ⟨mv, h⟩
/-! Unsettled.shows -/
def bdB (z : Int) : Bool := decide (-1000000000 ≤ z ∧ z ≤ 1000000000)
def neB (ks late : List Int) (p : Nat) : Bool := !decide (keyAt late p = keyAt ks p)
def spUsh (A : Ad) : Sp := fun vs H Q _ => ∃ (o r c p w : Nat) (ks late : List Int) (P : List Nat), vs = [.ref o, .ref r, .int c, .ref p, .int w] ∧ AtU A.CU H o late ∧ late.length ≤ 100 ∧ HpC H r c w ks ∧ H p = some (.tup (nv P)) ∧ PSet2 ks.length P ∧ ∀ (b : Bool) (H' : Hp), (b = true ↔ Agr ks.length w P ks late ∧ (srtI late).take c ≠ (srtI ks).take c) → Same H H' → Q (.bl b) H'
theorem ok_ush (T : Tx K mg A) : FnOk P w K mg base CX0 11 A.f_u_shows A.d_u_shows ["self", "row", "count", "places", "arms"] (spUsh A) := by
  obtain ⟨mish, kish⟩ := kb_ish T
  refine T.F_u_shows.ok sc_u_shows (fun vs H Q E h => ?_) (fun cdv B outer s H vs Q E hr h => ?_)
  · obtain ⟨o, r, c, p, w, ks, late, P, rfl, _⟩ := h
    rfl
  · obtain ⟨o, r, c, p, w, ks, late, P, rfl, at0, h100, hp, ep, hP, q⟩ := h
    have nd := sc_u_shows.nd
    have hu := hr.units
    have h12 := hp.row.2.1
    refine ⟨_, (C8.pss_cut (ps_set (i := 5) nd rfl (Or.inr rfl) (pe_call (ok_hpl T) (hr.mono (by decide)) (by rfl) T.m_heap_of_places T.F_heap_of_places.kp (b_hpl T) .nil pass0 (pa_cons (pv 1) (pa_cons (pv 2) (pa_cons (pv 3) (pa_cons (pv 4) pa_nil))))))
      (C8.pss_cut (ps_if (PW.pt (pw_or (pt_cmpR op_ne (pe_callB (r := rLn K) call_len_seq (by rfl) T.g_len PySem.boot_len (pa_cons (pe_fld (pv 0) rfl) pa_nil)) (pe_callB (r := rLn K) call_len_seq (by rfl) T.g_len PySem.boot_len (pa_cons (pv 5) pa_nil)) (nomark _)) (pw_or1 (pt_not (pt_val (pe_callB (cr_all rfl) (by rfl) T.g_all (by decide +kernel) (pa_cons (pe_lc (own := [("key", 6)]) (g := gName 6) (tt := tYes) rfl nd (pi_tup (pe_fld (pv 0) rfl)) (blkOk_by (own := [("key", 6)]) (N := ["self", "row", "count", "places", "arms", "heap", "key", "place"]) (sc := defScope s_u_shows) (by decide +kernel)) (fun _ _ _ _ _ => pg_name (i := 6) nd rfl (Or.inl rfl)) (fun _ _ _ _ _ => pts_nil) (fun _ _ _ _ _ => (pe_call (ok_key T) (hr.mono (by decide)) (by rfl) T.m_is_key T.F_is_key.kp (b_key T) .nil pass0 (pa_cons (pv 6) pa_nil)))) pa_nil))))))) (pss_one (ps_ret pe_bl)) pss_nil)
      (C8.pss_cut (ps_if (PW.pt (pw_or (pt_not (pt_val (pe_callN (ok_ish T) (hr.mono (by decide)) (by rfl) T.m_is_heap T.F_is_heap.kp kish pass0 (pa_cons (pe_fld (pv 0) rfl) pa_nil) (pk_cons (pv 4) pk_nil)))) (pw_or1 (pt_val (pe_callB (cr_any rfl) (by rfl) T.g_any (by decide +kernel) (pa_cons (pe_lc (own := [("place", 7)]) (g := gName 7) (tt := tYes) rfl nd (pi_tup (pv 3)) (blkOk_by (own := [("place", 7)]) (N := ["self", "row", "count", "places", "arms", "heap", "key", "place"]) (sc := defScope s_u_shows) (by decide +kernel)) (fun _ _ _ _ _ => pg_name (i := 7) nd rfl (Or.inl rfl)) (fun _ _ _ _ _ => pts_nil) (fun _ _ _ _ _ => (pe_cmpR op_ne (pe_ix (r := rIxT K) ix_tup (pe_fldK (K := K) rfl (pv 0) rfl) (pv 7) (fun _ _ => rfl)) (pe_ix (r := rIxT K) ix_tup (pv 5) (pv 7) (fun _ _ => rfl)) (nomark _)))) pa_nil)))))) (pss_one (ps_ret pe_bl)) pss_nil)
      (pss_one (ps_ret (pe_cmpR (op_neD hu) (pe_slice (r := rSlL K) sl_list (pe_callB cr_sortedTu (by rfl) T.g_sorted (by decide +kernel) (pa_cons (pe_fld (pv 0) rfl) pa_nil)) po_none (po_some (pv 2))) (pe_slice (r := rSlL K) sl_list (pe_callB cr_sortedTu (by rfl) T.g_sorted (by decide +kernel) (pa_cons (pv 5) pa_nil)) po_none (po_some (pv 2))) (nomark _))))))), ?_⟩
    refine ⟨fun σ' H' => ∃ h : Addr, σ' = [some (.ref o), some (.ref r), some (.int c), some (.ref p), some (.int w), some (.ref h), none, none] ∧ Same H H' ∧ H' h = some (.tup (ks.map V.int)), ?_, ?_⟩
    · exact ⟨_, rfl, _, rfl, _, rfl, _, rfl, r, c, p, w, ks, P, rfl, hp, ep, hP, fun H1 h s1 e1 => ⟨h, rfl, s1, e1⟩⟩
    rintro σ' H1 ⟨h, rfl, s1, eh⟩
    obtain ⟨dx, t0, ho, e0⟩ := id (at0.same s1)
    refine ⟨fun σ' H' => σ' = [some (.ref o), some (.ref r), some (.int c), some (.ref p), some (.int w), some (.ref h), none, none] ∧ Same H1 H' ∧ late.length = ks.length ∧ ∀ z ∈ late, -1000000000 ≤ z ∧ z ≤ 1000000000, ?_, ?_⟩
    · refine ⟨_, rfl, o, A.CU, dx, _, _, rfl, ho, T.cTU, T.uRow, fdU_row _, t0, _, rfl, .inr (SqT.of e0), _, rfl, h, _, rfl, .inr (SqT.of eh), rfl, _, rfl, ?_⟩
      by_cases hl : late.length = ks.length
      case neg =>
        refine ite_b (c := true) (by rw [decide_eq_false (fun z => hl (by injection z with z; rw [List.length_map, List.length_map] at z; omega))]; rfl) (iteT (iteT ?_))
        exact q false _ ⟨fun z => (nomatch z), fun z => absurd z.1.len hl⟩ s1
      refine ite_b (c := false) (by rw [decide_eq_true (by rw [List.length_map, List.length_map, hl])]; rfl) (iteF ?_)
      refine ⟨_, rfl, o, A.CU, dx, _, _, rfl, ho, T.cTU, T.uRow, fdU_row _, t0, rfl, ⟨_, SqT.of e0⟩, fun D nD => ?_⟩
      refine lc_it (walk_tup (xs := late.map V.int)) (fun i H' => Acc H1 D (((late.take i).map bdB).map V.bl) H') (Acc.start nD) (fun i H' _ ac => SqT.of (ac.s _ _ e0)) ?_ ?_
      · rintro i y Ho H2 hi ac ⟨rfl, hy⟩
        obtain ⟨hi2, rfl⟩ := ints_at hy
        refine ⟨rfl, iteT (B := Acc H1 D (((late.take (i + 1)).map bdB).map V.bl) H2) ⟨_, rfl, _, rfl, _, ac.a, by rw [List.length_map, List.length_map, List.length_take, sizeLine_eq]; omega, ?_⟩⟩
        rw [List.take_succ_eq_append_getElem hi2, List.map_append, List.map_append]
        exact ac.push
      · intro H2 ac
        rw [List.length_map, List.take_length] at ac
        refine ⟨D, late.map bdB, rfl, SqL.of ac.a, _, rfl, ?_⟩
        by_cases hb : ∀ z ∈ late, -1000000000 ≤ z ∧ z ≤ 1000000000
        · rw [show (late.map bdB).all id = true by
            rw [List.all_map, List.all_eq_true]
            exact fun z hz => decide_eq_true (hb z hz)]
          exact iteF ⟨rfl, ac.s, hl, hb⟩
        · rw [show (late.map bdB).all id = false from Bool.eq_false_iff.mpr fun z => hb fun x hx => by
            rw [List.all_map, List.all_eq_true] at z
            exact of_decide_eq_true (z x hx)]
          exact iteT (q false _ ⟨fun z => (nomatch z), fun z => absurd z.1.bd hb⟩ (s1.trans ac.s))
    rintro σ' H2 ⟨rfl, s2, hl, hb⟩
    have ho2 := s2 _ _ ho
    have e02 := s2 _ _ e0
    refine ⟨fun σ' H' => σ' = [some (.ref o), some (.ref r), some (.int c), some (.ref p), some (.int w), some (.ref h), none, none] ∧ Same H2 H' ∧ Agr ks.length w P ks late, ?_, ?_⟩
    · refine ⟨_, rfl, o, A.CU, dx, _, _, rfl, ho2, T.cTU, T.uRow, fdU_row _, _, rfl, rfl, rfl, t0, w, late, rfl, hp.hw, ⟨.inr e02, by omega, hb⟩, fun H3 s3 => ⟨_, rfl, ?_⟩⟩
      by_cases hf : faultL late w = []
      case neg =>
        rw [decide_eq_false hf]
        exact iteT (iteT (q false _ ⟨fun z => (nomatch z), fun z => absurd (heap_fault hl z.1.hp) hf⟩ (s1.trans (s2.trans s3))))
      rw [decide_eq_true hf]
      have hh : HeapL ks.length w late := fault_heap hp.hw h12 hl hf
      have ep3 := s3 _ _ (s2 _ _ (s1 _ _ ep))
      have ho3 := s3 _ _ ho2
      have e03 := s3 _ _ e02
      have eh3 := s3 _ _ (s2 _ _ eh)
      have hP12 := hP.len
      refine iteF ⟨_, rfl, p, rfl, ⟨_, SqT.of ep3⟩, fun D nD => ?_⟩
      refine lc_it (walk_tup (xs := nv P)) (fun i H' => Acc H3 D (((P.take i).map (neB ks late)).map V.bl) H') (Acc.start nD) (fun i H' _ ac => SqT.of (ac.s _ _ ep3)) ?_ ?_
      · rintro i y Ho H4 hi ac ⟨rfl, hy⟩
        obtain ⟨hi2, rfl⟩ := nv_at hy
        have hpi := hP.up _ (List.getElem_mem hi2)
        refine ⟨rfl, iteT (B := Acc H3 D (((P.take (i + 1)).map (neB ks late)).map V.bl) H4) ?_⟩
        refine ⟨_, rfl, o, A.CU, dx, _, _, rfl, ac.s _ _ ho3, T.cTU, T.uRow, fdU_row _, _, rfl, t0, _, _, _, rfl, rfl, SqT.of (ac.s _ _ e03), key_atI (by omega), _, rfl, _, rfl, h, _, _, _, rfl, rfl, SqT.of (ac.s _ _ eh3), key_atI hpi, rfl, _, ac.a, by rw [List.length_map, List.length_map, List.length_take, sizeLine_eq]; omega, ?_⟩
        rw [int_deq, List.take_succ_eq_append_getElem hi2, List.map_append, List.map_append]
        exact ac.push
      · intro H4 ac
        rw [nv_len, List.take_length] at ac
        refine ⟨D, P.map (neB ks late), rfl, SqL.of ac.a, _, rfl, ?_⟩
        by_cases ha : ∀ p ∈ P, keyAt late p = keyAt ks p
        · rw [show (P.map (neB ks late)).any id = false from Bool.eq_false_iff.mpr fun z => by
            rw [List.any_map, List.any_eq_true] at z
            obtain ⟨x, hx, e⟩ := z
            have e : (!decide (keyAt late x = keyAt ks x)) = true := e
            rw [decide_eq_true (ha x hx)] at e
            cases e]
          exact iteF ⟨rfl, s3.trans ac.s, ⟨hl, hb, hh, ha⟩⟩
        · rw [show (P.map (neB ks late)).any id = true by
            refine Classical.byContradiction fun z => ha fun x hx => Classical.byContradiction fun y => z ?_
            rw [List.any_map, List.any_eq_true]
            refine ⟨x, hx, ?_⟩
            show (!decide (keyAt late x = keyAt ks x)) = true
            rw [decide_eq_false y]
            rfl]
          exact iteT (q false _ ⟨fun z => (nomatch z), fun z => absurd z.1.at' ha⟩ (s1.trans (s2.trans (s3.trans ac.s))))
    rintro σ' H3 ⟨rfl, s3, al⟩
    have ho3 := s3 _ _ ho2
    have e03 := s3 _ _ e02
    have eh3 := s3 _ _ (s2 _ _ eh)
    refine ⟨_, rfl, o, A.CU, dx, _, _, rfl, ho3, T.cTU, T.uRow, fdU_row _, t0, late, rfl, SqT.of e03, fun z1 p1 hz1 hz2 n1 => ?_⟩
    rw [srtI_one hz1 hz2]
    have s4 := Same.up (o := .lst ((srtI late).map V.int)) n1
    have f1 : upd H3 p1 (.lst ((srtI late).map V.int)) p1 = some (.lst ((srtI late).map V.int)) := upd_same
    generalize upd H3 p1 (.lst ((srtI late).map V.int)) = H4 at s4 f1
    unfold tNoPart
    refine ⟨_, rfl, _, rfl, p1, _, rfl, SqL.of f1, fun u1 m1 => ?_⟩
    rw [cut_to, ← List.map_take]
    have s5 := s4.trans (Same.up (o := .lst (((srtI late).take c).map V.int)) m1)
    have g1 : upd H4 u1 (.lst (((srtI late).take c).map V.int)) u1 = some (.lst (((srtI late).take c).map V.int)) := upd_same
    generalize upd H4 u1 (.lst (((srtI late).take c).map V.int)) = H5 at s5 g1
    refine ⟨_, rfl, h, ks, rfl, SqT.of (s5 _ _ eh3), fun z2 p2 hz3 hz4 n2 => ?_⟩
    rw [srtI_one hz3 hz4]
    have s6 := Same.up (o := .lst ((srtI ks).map V.int)) n2
    have f2 : upd H5 p2 (.lst ((srtI ks).map V.int)) p2 = some (.lst ((srtI ks).map V.int)) := upd_same
    generalize upd H5 p2 (.lst ((srtI ks).map V.int)) = H6 at s6 f2
    refine ⟨_, rfl, _, rfl, p2, _, rfl, SqL.of f2, fun u2 m2 => ?_⟩
    rw [cut_to, ← List.map_take]
    have s7 := s6.trans (Same.up (o := .lst (((srtI ks).take c).map V.int)) m2)
    have g2 : upd H6 u2 (.lst (((srtI ks).take c).map V.int)) u2 = some (.lst (((srtI ks).take c).map V.int)) := upd_same
    generalize upd H6 u2 (.lst (((srtI ks).take c).map V.int)) = H7 at s7 g2
    refine ⟨_, _, .lst (SqL.of (s7 _ _ g1)) (ints_dp _ _ _), .lst (SqL.of g2) (ints_dp _ _ _), shaped_ints _, shaped_ints _, ?_⟩
    rw [intsL_eqv]
    refine q _ _ ⟨fun z => ⟨al, fun e => ?_⟩, fun z => ?_⟩ (s1.trans (s2.trans (s3.trans (s5.trans s7))))
    · rw [decide_eq_true e] at z
      cases z
    · rw [decide_eq_false z.2]
      rfl
theorem kb_ush (T : Tx K mg A) : ∃ mv : List Value, KBn K A.d_u_shows ["self", "row", "count", "places", "arms"] 4 ["arms"] (fun us ws => us ++ (mv ++ ws)) (fun vs zs => vs ++ zs) := by
  obtain ⟨mv, h⟩ := T.F_u_shows.kbinds0 (ps := ["self", "row", "count", "places", "arms"]) 4 ["arms"] [] (fun us mv ws => us ++ (mv ++ ws)) (by simp) (by simp) (fun r1 r2 r3 => r1.append (r2.append r3))
    (fun D doc pm an cdv ct us mv ws h1 h2 h3 => by
      match us, mv, ws, h1, h2, h3 with
      | [a, b, c, d], [], [e], _, _, _ => rfl)
  exact ⟨mv, h⟩

end
end Tw

set_option Elab.async false
set_option linter.all false
set_option maxRecDepth 100000
set_option maxHeartbeats 2000000
namespace Tw
open PySem PySem.Spec PyProof.Rows L2
section
variable {P : Program} {w : World} {K : PySem.W.Frag} {mg : Str → Option Value} {base : Heap} {A : Ad}
open LamX (ExtN Tabs TabS)
/-! the law's own words: agr_self bdB neB key_atI ints_at walk_range HeapL fault_heap -/
def ltB (w : Nat) (late : List Int) (i : Nat) : Bool := decide (keyAt late (i + 1) < keyAt late (i / w))
def spLdu : Sp := fun vs H Q _ => ∃ (l r w c p : Nat) (ks late : List Int) (P : List Nat), vs = [.ref l, .ref r, .int w, .int c, .ref p] ∧ H l = some (.tup (late.map V.int)) ∧ late.length ≤ 100 ∧ H r = some (.tup (ks.map V.int)) ∧ HpC H r c w ks ∧ H p = some (.tup (nv P)) ∧ PSet2 ks.length P ∧ ∀ (b : Bool) (H' : Hp), (b = true ↔ Agr ks.length w P ks late ∧ (srtI late).take c ≠ (srtI ks).take c) → Same H H' → Q (.bl b) H'
theorem ok_ldu (T : Tx K mg A) : FnOk P w K mg base CX0 2 A.f__law_due A.d__law_due ["late", "row", "wide", "count", "places"] spLdu := by
  refine T.F__law_due.ok sc__law_due (fun vs H Q E h => ?_) (fun cdv B outer s H vs Q E hr h => ?_)
  · obtain ⟨l, r, w, c, p, ks, late, P, rfl, _⟩ := h
    rfl
  · obtain ⟨l, r, w, c, p, ks, late, P, rfl, el, h100, er, hp, ep, hP, q⟩ := h
    have nd := sc__law_due.nd
    have hu := hr.units
    have h12 := hp.row.2.1
    have hw := hp.hw
    refine ⟨_, (C8.pss_cut (ps_if (PW.pt (pw_or (pt_cmpR op_ne (pe_callB (r := rLn K) call_len_seq (by rfl) T.g_len PySem.boot_len (pa_cons (pv 0) pa_nil)) (pe_callB (r := rLn K) call_len_seq (by rfl) T.g_len PySem.boot_len (pa_cons (pv 1) pa_nil)) (nomark _)) (pw_or1 (pt_val (pe_callB (cr_any rfl) (by rfl) T.g_any (by decide +kernel) (pa_cons (pe_lc (own := [("key", 5)]) (g := gName 5) (tt := tYes) rfl nd (pi_tup (pv 0)) (blkOk_by (own := [("key", 5)]) (N := ["late", "row", "wide", "count", "places", "key", "place"]) (sc := defScope s__law_due) (by decide +kernel)) (fun _ _ _ _ _ => pg_name (i := 5) nd rfl (Or.inl rfl)) (fun _ _ _ _ _ => pts_nil) (fun _ _ _ _ _ => (pe_not (pe_chain op_le op_le (pe_un un_neg (pe_op op_pow pe_int pe_int)) (pv 5) (pe_op op_pow pe_int pe_int))))) pa_nil)))))) (pss_one (ps_ret pe_bl)) pss_nil)
      (C8.pss_cut (ps_if (pt_val (pe_callB (cr_any rfl) (by rfl) T.g_any (by decide +kernel) (pa_cons (pe_lc (own := [("place", 6)]) (g := gName 6) (tt := tYes) rfl nd (pi_range2 rfl T.g_range (pa_cons pe_int (pa_cons (pe_callB (r := rLn K) call_len_seq (by rfl) T.g_len PySem.boot_len (pa_cons (pv 1) pa_nil)) pa_nil))) (blkOk_by (own := [("place", 6)]) (N := ["late", "row", "wide", "count", "places", "key", "place"]) (sc := defScope s__law_due) (by decide +kernel)) (fun _ _ _ _ _ => pg_name (i := 6) nd rfl (Or.inl rfl)) (fun _ _ _ _ _ => pts_nil) (fun _ _ _ _ _ => (pe_cmpR op_lt (pe_ix (r := rIxT K) ix_tup (pv 0) (pv 6) (fun _ _ => rfl)) (pe_ix (r := rIxT K) ix_tup (pv 0) (pe_op op_fdiv (pe_op op_sub (pv 6) pe_int) (pv 2)) (fun _ _ => rfl)) (nomark _)))) pa_nil))) (pss_one (ps_ret pe_bl)) pss_nil)
      (pss_one (ps_ret (pe_and (pe_callB (cr_all rfl) (by rfl) T.g_all (by decide +kernel) (pa_cons (pe_lc (own := [("place", 6)]) (g := gName 6) (tt := tYes) rfl nd (pi_tup (pv 4)) (blkOk_by (own := [("place", 6)]) (N := ["late", "row", "wide", "count", "places", "key", "place"]) (sc := defScope s__law_due) (by decide +kernel)) (fun _ _ _ _ _ => pg_name (i := 6) nd rfl (Or.inl rfl)) (fun _ _ _ _ _ => pts_nil) (fun _ _ _ _ _ => (pe_cmpR op_eq (pe_ix (r := rIxT K) ix_tup (pv 0) (pv 6) (fun _ _ => rfl)) (pe_ix (r := rIxT K) ix_tup (pv 1) (pv 6) (fun _ _ => rfl)) (nomark _)))) pa_nil)) (pe_one (pe_cmpR (op_neD hu) (pe_slice (r := rSlL K) sl_list (pe_callB cr_sortedTu (by rfl) T.g_sorted (by decide +kernel) (pa_cons (pv 0) pa_nil)) po_none (po_some (pv 3))) (pe_slice (r := rSlL K) sl_list (pe_callB cr_sortedTu (by rfl) T.g_sorted (by decide +kernel) (pa_cons (pv 1) pa_nil)) po_none (po_some (pv 3))) (nomark _)))))))), ?_⟩
    refine ⟨fun σ' H' => σ' = [some (.ref l), some (.ref r), some (.int w), some (.int c), some (.ref p), none, none] ∧ Same H H' ∧ late.length = ks.length ∧ ∀ z ∈ late, -1000000000 ≤ z ∧ z ≤ 1000000000, ?_, ?_⟩
    · refine ⟨_, rfl, l, _, rfl, .inr (SqT.of el), _, rfl, r, _, rfl, .inr (SqT.of er), rfl, _, rfl, ?_⟩
      by_cases hl : late.length = ks.length
      case neg =>
        refine ite_b (c := true) (by rw [decide_eq_false (fun z => hl (by injection z with z; rw [List.length_map, List.length_map] at z; omega))]; rfl) (iteT (iteT ?_))
        exact q false _ ⟨fun z => (nomatch z), fun z => absurd z.1.len hl⟩ (Same.refl _)
      refine ite_b (c := false) (by rw [decide_eq_true (by rw [List.length_map, List.length_map, hl])]; rfl) (iteF ?_)
      refine ⟨_, rfl, l, rfl, ⟨_, SqT.of el⟩, fun D nD => ?_⟩
      refine lc_it (walk_tup (xs := late.map V.int)) (fun i H' => Acc H D (((late.take i).map fun z => !bdB z).map V.bl) H') (Acc.start nD) (fun i H' _ ac => SqT.of (ac.s _ _ el)) ?_ ?_
      · rintro i y Ho H2 hi ac ⟨rfl, hy⟩
        obtain ⟨hi2, rfl⟩ := ints_at hy
        have fin : ∀ b : Bool, b = (!bdB late[i]) → ∃ acc, H2 D = some (.lst acc) ∧ acc.length < sizeLine ∧ Acc H D (((late.take (i + 1)).map fun z => !bdB z).map V.bl) (upd H2 D (.lst (acc ++ [V.bl b]))) := fun b hb => by
          refine ⟨_, ac.a, by rw [List.length_map, List.length_map, List.length_take, sizeLine_eq]; omega, ?_⟩
          rw [List.take_succ_eq_append_getElem hi2, List.map_append, List.map_append, hb]
          exact ac.push
        have e9 : (10 : Int) ^ ((9 : Int).toNat) = 1000000000 := by decide
        by_cases h1 : -1000000000 ≤ late[i]
        · refine ⟨rfl, iteT (B := Acc H D (((late.take (i + 1)).map fun z => !bdB z).map V.bl) H2) ⟨_, _, rfl, rfl, ⟨by decide, by decide, by decide⟩, _, rfl, _, rfl, _, _, rfl, rfl, _, rfl, ite_b (c := true) (decide_eq_true (by show -((10 : Int) ^ ((9 : Int).toNat)) ≤ _; rw [e9]; exact h1)) (iteT ⟨_, _, rfl, rfl, ⟨by decide, by decide, by decide⟩, _, _, rfl, rfl, _, rfl, fin _ ?_⟩)⟩⟩
          show (!decide (late[i] ≤ (10 : Int) ^ ((9 : Int).toNat))) = _
          rw [e9]
          unfold bdB
          congr 1
          exact decide_eq_decide.mpr ⟨fun z => ⟨h1, z⟩, fun z => z.2⟩
        · refine ⟨rfl, iteT (B := Acc H D (((late.take (i + 1)).map fun z => !bdB z).map V.bl) H2) ⟨_, _, rfl, rfl, ⟨by decide, by decide, by decide⟩, _, rfl, _, rfl, _, _, rfl, rfl, _, rfl, ite_b (c := false) (decide_eq_false (by show ¬ -((10 : Int) ^ ((9 : Int).toNat)) ≤ _; rw [e9]; exact h1)) (iteF ⟨_, rfl, fin _ ?_⟩)⟩⟩
          unfold bdB
          rw [decide_eq_false fun z => h1 z.1]
      · intro H2 ac
        rw [List.length_map, List.take_length] at ac
        refine ⟨D, late.map fun z => !bdB z, rfl, SqL.of ac.a, _, rfl, ?_⟩
        by_cases hb : ∀ z ∈ late, -1000000000 ≤ z ∧ z ≤ 1000000000
        · rw [show (late.map fun z => !bdB z).any id = false from Bool.eq_false_iff.mpr fun z => by
            rw [List.any_map, List.any_eq_true] at z
            obtain ⟨x, hx, e⟩ := z
            have e : (!bdB x) = true := e
            unfold bdB at e
            rw [decide_eq_true (hb x hx)] at e
            cases e]
          exact iteF ⟨rfl, ac.s, hl, hb⟩
        · rw [show (late.map fun z => !bdB z).any id = true by
            refine Classical.byContradiction fun z => hb fun x hx => Classical.byContradiction fun y => z ?_
            rw [List.any_map, List.any_eq_true]
            refine ⟨x, hx, ?_⟩
            show (!bdB x) = true
            unfold bdB
            rw [decide_eq_false y]
            rfl]
          exact iteT (q false _ ⟨fun z => (nomatch z), fun z => absurd z.1.bd hb⟩ ac.s)
    rintro σ' H2 ⟨rfl, s2, hl, hb⟩
    have el2 := s2 _ _ el
    have er2 := s2 _ _ er
    have ep2 := s2 _ _ ep
    refine ⟨fun σ' H' => σ' = [some (.ref l), some (.ref r), some (.int w), some (.int c), some (.ref p), none, none] ∧ Same H2 H' ∧ HeapL ks.length w late, ?_, ?_⟩
    · refine ⟨_, rfl, r, _, rfl, .inr (SqT.of er2), 1, _, rfl, ⟨by omega, by omega, by rw [List.length_map]; omega, by rw [List.length_map]; omega⟩, fun D nD => ?_⟩
      rw [show (((ks.map V.int).length : Int) - 1).toNat = ks.length - 1 by rw [List.length_map]; omega]
      refine lc_it (walk_range (lo := 1) (n := ks.length - 1)) (fun i H' => Acc H2 D (((List.range i).map (ltB w late)).map V.bl) H') (Acc.start nD) (fun _ _ _ _ => trivial) ?_ ?_
      · rintro i y Ho H3 hi ac ⟨rfl, ey⟩
        obtain rfl : y = V.int ((i + 1 : Nat) : Int) := ey.trans (by show V.int (1 + (i : Int)) = _; congr 1; omega)
        have hd := Nat.div_le_self i w
        have e : (((i + 1 : Nat) : Int) - 1) / (w : Int) = ((i / w : Nat) : Int) := by
          rw [show ((i + 1 : Nat) : Int) - 1 = (i : Int) by omega]
          exact (Int.natCast_ediv i w).symm
        have hat : atI (late.map V.int) ((((i + 1 : Nat) : Int) - 1) / (w : Int)) = some (V.int (keyAt late (i / w))) := by
          rw [e]
          exact key_atI (by omega)
        refine ⟨rfl, iteT (B := Acc H2 D (((List.range (i + 1)).map (ltB w late)).map V.bl) H3) ⟨_, rfl, _, rfl, l, _, _, _, rfl, rfl, SqT.of (ac.s _ _ el2), key_atI (by omega), _, rfl, _, rfl, _, _, rfl, rfl, _, rfl, _, _, rfl, rfl, ⟨by omega, by omega⟩, l, _, _, _, rfl, rfl, SqT.of (ac.s _ _ el2), hat, _, _, rfl, rfl, _, ac.a, by rw [List.length_map, List.length_map, List.length_range, sizeLine_eq]; omega, ?_⟩⟩
        rw [List.range_succ, List.map_append, List.map_append]
        exact ac.push
      · intro H3 ac
        refine ⟨D, (List.range (ks.length - 1)).map (ltB w late), rfl, SqL.of ac.a, _, rfl, ?_⟩
        by_cases hh : HeapL ks.length w late
        · rw [show ((List.range (ks.length - 1)).map (ltB w late)).any id = false from Bool.eq_false_iff.mpr fun z => by
            rw [List.any_map, List.any_eq_true] at z
            obtain ⟨x, hx, e⟩ := z
            have hx := List.mem_range.mp hx
            have e : keyAt late (x + 1) < keyAt late (x / w) := of_decide_eq_true e
            have := hh (x + 1) (by omega) (by omega)
            rw [Nat.add_sub_cancel] at this
            omega]
          exact iteF ⟨rfl, ac.s, hh⟩
        · rw [show ((List.range (ks.length - 1)).map (ltB w late)).any id = true by
            refine Classical.byContradiction fun z => hh fun x h1 h2 => Classical.byContradiction fun y => z ?_
            rw [List.any_map, List.any_eq_true]
            refine ⟨x - 1, List.mem_range.mpr (by omega), decide_eq_true ?_⟩
            rw [Nat.sub_add_cancel h1]
            omega]
          exact iteT (q false _ ⟨fun z => (nomatch z), fun z => absurd z.1.hp hh⟩ (s2.trans ac.s))
    rintro σ' H3 ⟨rfl, s3, hh⟩
    have el3 := s3 _ _ el2
    have er3 := s3 _ _ er2
    have ep3 := s3 _ _ ep2
    have hP12 := hP.len
    refine ⟨_, rfl, p, rfl, ⟨_, SqT.of ep3⟩, fun D nD => ?_⟩
    refine lc_it (walk_tup (xs := nv P)) (fun i H' => Acc H3 D (((P.take i).map fun p => decide (keyAt late p = keyAt ks p)).map V.bl) H') (Acc.start nD) (fun i H' _ ac => SqT.of (ac.s _ _ ep3)) ?_ ?_
    · rintro i y Ho H4 hi ac ⟨rfl, hy⟩
      obtain ⟨hi2, rfl⟩ := nv_at hy
      have hpi := hP.up _ (List.getElem_mem hi2)
      refine ⟨rfl, iteT (B := Acc H3 D (((P.take (i + 1)).map fun p => decide (keyAt late p = keyAt ks p)).map V.bl) H4) ?_⟩
      refine ⟨_, rfl, _, rfl, l, _, _, _, rfl, rfl, SqT.of (ac.s _ _ el3), key_atI (by omega), _, rfl, _, rfl, r, _, _, _, rfl, rfl, SqT.of (ac.s _ _ er3), key_atI hpi, rfl, _, ac.a, by rw [List.length_map, List.length_map, List.length_take, sizeLine_eq]; omega, ?_⟩
      rw [int_deq, List.take_succ_eq_append_getElem hi2, List.map_append, List.map_append]
      exact ac.push
    intro H4 ac
    rw [nv_len, List.take_length] at ac
    refine ⟨D, P.map fun p => decide (keyAt late p = keyAt ks p), rfl, SqL.of ac.a, ?_⟩
    by_cases ha : ∀ p ∈ P, keyAt late p = keyAt ks p
    case neg =>
      rw [show (P.map fun p => decide (keyAt late p = keyAt ks p)).all id = false from Bool.eq_false_iff.mpr fun z => ha fun x hx => by
        rw [List.all_map, List.all_eq_true] at z
        exact of_decide_eq_true (z x hx)]
      exact ⟨false, rfl, iteF (q false _ ⟨fun z => (nomatch z), fun z => absurd z.1.at' ha⟩ (s2.trans (s3.trans ac.s)))⟩
    rw [show (P.map fun p => decide (keyAt late p = keyAt ks p)).all id = true by
      rw [List.all_map, List.all_eq_true]
      exact fun x hx => decide_eq_true (ha x hx)]
    have al : Agr ks.length w P ks late := ⟨hl, hb, hh, ha⟩
    have el4 := ac.s _ _ el3
    have er4 := ac.s _ _ er3
    have s4' := ac.s
    refine ⟨true, rfl, iteT ?_⟩
    refine ⟨_, rfl, l, late, rfl, SqT.of el4, fun z1 p1 hz1 hz2 n1 => ?_⟩
    rw [srtI_one hz1 hz2]
    have s5 := Same.up (o := .lst ((srtI late).map V.int)) n1
    have f1 : upd H4 p1 (.lst ((srtI late).map V.int)) p1 = some (.lst ((srtI late).map V.int)) := upd_same
    generalize upd H4 p1 (.lst ((srtI late).map V.int)) = H5 at s5 f1
    unfold tNoPart
    refine ⟨_, rfl, _, rfl, p1, _, rfl, SqL.of f1, fun u1 m1 => ?_⟩
    rw [cut_to, ← List.map_take]
    have s6 := s5.trans (Same.up (o := .lst (((srtI late).take c).map V.int)) m1)
    have g1 : upd H5 u1 (.lst (((srtI late).take c).map V.int)) u1 = some (.lst (((srtI late).take c).map V.int)) := upd_same
    generalize upd H5 u1 (.lst (((srtI late).take c).map V.int)) = H6 at s6 g1
    refine ⟨_, rfl, r, ks, rfl, SqT.of (s6 _ _ er4), fun z2 p2 hz3 hz4 n2 => ?_⟩
    rw [srtI_one hz3 hz4]
    have s7 := Same.up (o := .lst ((srtI ks).map V.int)) n2
    have f2 : upd H6 p2 (.lst ((srtI ks).map V.int)) p2 = some (.lst ((srtI ks).map V.int)) := upd_same
    generalize upd H6 p2 (.lst ((srtI ks).map V.int)) = H7 at s7 f2
    refine ⟨_, rfl, _, rfl, p2, _, rfl, SqL.of f2, fun u2 m2 => ?_⟩
    rw [cut_to, ← List.map_take]
    have s8 := s7.trans (Same.up (o := .lst (((srtI ks).take c).map V.int)) m2)
    have g2 : upd H7 u2 (.lst (((srtI ks).take c).map V.int)) u2 = some (.lst (((srtI ks).take c).map V.int)) := upd_same
    generalize upd H7 u2 (.lst (((srtI ks).take c).map V.int)) = H8 at s8 g2
    refine ⟨_, _, .lst (SqL.of (s8 _ _ g1)) (ints_dp _ _ _), .lst (SqL.of g2) (ints_dp _ _ _), shaped_ints _, shaped_ints _, ?_⟩
    rw [intsL_eqv]
    refine q _ _ ⟨fun z => ⟨al, fun e => ?_⟩, fun z => ?_⟩ (s2.trans (s3.trans (s4'.trans (s6.trans s8))))
    · rw [decide_eq_true e] at z
      cases z
    · rw [decide_eq_false z.2]
      rfl
theorem b_ldu (T : Tx K mg A) : L2.Binds K A.d__law_due ["late", "row", "wide", "count", "places"] [] := T.F__law_due.binds fun _ _ _ _ _ _ us hl => match us, hl with | [_, _, _, _, _], _ => rfl

end
end Tw

set_option Elab.async false
set_option linter.all false
set_option maxRecDepth 100000
set_option maxHeartbeats 2000000
namespace Tw
open PySem PySem.Spec PyProof.Rows L2
section
variable {P : Program} {w : World} {K : PySem.W.Frag} {mg : Str → Option Value} {base : Heap} {A : Ad}
open LamX (ExtN Tabs TabS)
/-! the law's sets: nv nv_len nv_at walk_tup walk_list cat_li catA' slA Acc key_atI ints_at cut_to cutv_from map_one -/
structure Bag (φ : Hp → V → Prop) (H1 : Hp) (D : Addr) (m : Nat) (H : Hp) : Prop where
  s : Same H1 H
  n : H1 D = none
  a : ∃ ys : List V, H D = some (.lst ys) ∧ ys.length ≤ m ∧ ∀ y ∈ ys, y ≠ .ref D ∧ φ H y
def SetOk (i : Nat) (H : Hp) (x : V) : Prop := ∃ (t : Addr) (S : List Nat), x = .ref t ∧ H t = some (.lst (nv S)) ∧ (∀ p ∈ S, p < i) ∧ S.Pairwise (· < ·) ∧ S.length ≤ i
theorem SetOk.same {i : Nat} {H H' : Hp} {x : V} (h : SetOk i H x) (s : Same H H') : SetOk i H' x := let ⟨t, S, e, q, r⟩ := h; ⟨t, S, e, s _ _ q, r⟩
theorem SetOk.put {i : Nat} {H : Hp} {x : V} {D : Addr} {o : HO} (h : SetOk i H x) (n : x ≠ .ref D) : SetOk i (upd H D o) x := let ⟨t, S, e, q, r⟩ := h; ⟨t, S, e, (upd_ne (fun z => n (by rw [e, z]))).trans q, r⟩
theorem SetOk.up {i j : Nat} {H : Hp} {x : V} (h : SetOk i H x) (l : i ≤ j) : SetOk j H x := let ⟨t, S, e, q, r, a, b⟩ := h; ⟨t, S, e, q, fun p hp => Nat.lt_of_lt_of_le (r p hp) l, a, Nat.le_trans b l⟩
theorem Bag.sSame {i m : Nat} {H1 H H' : Hp} {D : Addr} (h : Bag (SetOk i) H1 D m H) (s : Same H H') : Bag (SetOk i) H1 D m H' := ⟨h.s.trans s, h.n, let ⟨ys, e, l, z⟩ := h.a; ⟨ys, s _ _ e, l, fun y hy => ⟨(z y hy).1, (z y hy).2.same s⟩⟩⟩
theorem Bag.sPush {i m : Nat} {H1 H : Hp} {D : Addr} {x : V} (h : Bag (SetOk i) H1 D m H) (hx : SetOk i H x) (hn : x ≠ .ref D) (hm : m < 1000000) : ∃ acc, H D = some (.lst acc) ∧ acc.length < sizeLine ∧ Bag (SetOk i) H1 D (m + 1) (upd H D (.lst (acc ++ [x]))) := by
  obtain ⟨ys, e, l, z⟩ := h.a
  refine ⟨ys, e, by rw [sizeLine_eq]; omega, fun b o k => ?_, h.n, ys ++ [x], upd_same, by rw [List.length_append]; show _ + 1 ≤ _; omega, fun y hy => ?_⟩
  · rw [upd_ne (ne_of_none k h.n)]
    exact h.s _ _ k
  · rcases List.mem_append.mp hy with hy | hy
    · exact ⟨(z y hy).1, (z y hy).2.put (z y hy).1⟩
    · rw [List.mem_singleton.mp hy]
      exact ⟨hn, hx.put hn⟩
def spLst : Sp := fun vs H Q _ => ∃ (g n c : Nat), vs = [.ref g, .int c] ∧ H g = some (.lst (nv (List.range n))) ∧ n ≤ 12 ∧ ∀ (H' : Hp) (q : Addr) (xs : List V), Same H H' → H' q = some (.lst xs) → xs.length ≤ 2 ^ n → (c = 0 → xs ≠ []) → (∀ x ∈ xs, SetOk n H' x) → Q (.ref q) H'
theorem ok_lst (T : Tx K mg A) : FnOk P w K mg base CX0 1 A.f__law_sets A.d__law_sets ["things", "count"] spLst := by
  refine T.F__law_sets.ok sc__law_sets (fun vs H Q E h => ?_) (fun cdv B outer s H vs Q E hr h => ?_)
  · obtain ⟨g, n, c, rfl, _⟩ := h
    rfl
  · obtain ⟨g, n, c, rfl, eg, hn, q⟩ := h
    have nd := sc__law_sets.nd
    refine ⟨_, (pss_cons (ps_set (i := 2) nd rfl (Or.inl rfl) (pe_lst (pa_cons (pe_lst pa_nil) pa_nil)))
      (C8.pss_cut (ps_for PassesOwn.never rfl (pi_list (pv 0)) (pg_name (i := 3) nd rfl (Or.inr rfl)) (pss_one (ps_set (i := 2) nd rfl (Or.inl rfl) (pe_op op_cat (pv 2) (pe_lc (own := [("some", 4)]) (g := gName 4) (tt := tYes) rfl nd (pi_list (pv 2)) (blkOk_by (own := [("some", 4)]) (N := ["things", "count", "found", "thing", "some"]) (sc := defScope s__law_sets) (by decide +kernel)) (fun _ _ _ _ _ => pg_name (i := 4) nd rfl (Or.inl rfl)) (fun _ _ _ _ _ => pts_nil) (fun _ _ _ _ _ => (pe_op op_cat (pv 4) (pe_lst (pa_cons (pv 3) pa_nil)))))))))
      (pss_one (ps_ret (pe_lc (own := [("some", 4)]) (g := gName 4) rfl nd (pi_list (pv 2)) (blkOk_by (own := [("some", 4)]) (N := ["things", "count", "found", "thing", "some"]) (sc := defScope s__law_sets) (by decide +kernel)) (fun _ _ _ _ _ => pg_name (i := 4) nd rfl (Or.inl rfl)) (fun _ _ _ _ _ => pts_one (pt_cmpR op_eq (pe_callB (r := rLn K) call_len_seq (by rfl) T.g_len PySem.boot_len (pa_cons (pv 4) pa_nil)) (pv 1) (nomark _))) (fun _ _ _ _ _ => (pv 4))))))), ?_⟩
    refine ⟨by show 0 ≤ sizeLine; decide, fun e ne => ⟨by show 1 ≤ sizeLine; decide, fun D0 nD0 => ?_⟩⟩
    have s1 : Same H (upd (upd H e (.lst [])) D0 (.lst [V.ref e])) := (Same.up ne).trans (Same.up nD0)
    have eD : upd (upd H e (.lst [])) D0 (.lst [V.ref e]) D0 = some (.lst [V.ref e]) := upd_same
    have ee : upd (upd H e (.lst [])) D0 (.lst [V.ref e]) e = some (.lst (nv [])) := (Same.up nD0) _ _ upd_same
    generalize upd (upd H e (.lst [])) D0 (.lst [V.ref e]) = H1 at s1 eD ee
    have eg1 := s1 _ _ eg
    have hp12 : (2 : Nat) ^ n ≤ 2 ^ 12 := Nat.pow_le_pow_right (by decide) hn
    refine ⟨fun σ' H' => ∃ (q1 : Addr) (xs : List V) (x3 : Option V), σ' = [some (.ref g), some (.int c), some (.ref q1), x3, none] ∧ Same H1 H' ∧ H' q1 = some (.lst xs) ∧ xs[0]? = some (V.ref e) ∧ xs.length ≤ 2 ^ n ∧ ∀ x ∈ xs, SetOk n H' x, ?_, ?_⟩
    · refine ⟨_, rfl, g, rfl, ⟨_, SqL.of eg1⟩, ?_⟩
      refine for_it (walk_list (xs := nv (List.range n))) (fun i σ' H' => ∃ (q1 : Addr) (xs : List V) (x3 : Option V), σ' = [some (.ref g), some (.int c), some (.ref q1), x3, none] ∧ Same H1 H' ∧ H' q1 = some (.lst xs) ∧ xs[0]? = some (V.ref e) ∧ xs.length ≤ 2 ^ i ∧ ∀ x ∈ xs, SetOk i H' x)
        ⟨D0, _, none, rfl, Same.refl _, eD, rfl, Nat.le_refl _, fun x hx => ⟨e, [], List.mem_singleton.mp hx, ee, fun p hp => (nomatch hp), List.Pairwise.nil, Nat.le_refl _⟩⟩ (fun i σ' H' _ ⟨_, _, _, _, s, _⟩ => SqL.of (s _ _ eg1)) ?_ (fun σ' H' h => by rw [nv_len, List.length_range] at h; exact h)
      rintro i y σ' Ho H2 hi ⟨q1, xs, x3, rfl, s2, e2, f2, l2, z2⟩ ⟨rfl, hy⟩
      obtain ⟨hi2, rfl⟩ := nv_at hy
      rw [List.length_range] at hi2
      rw [List.getElem_range]
      have hpi : (2 : Nat) ^ i ≤ 2 ^ 12 := Nat.pow_le_pow_right (by decide) (by omega)
      refine ⟨_, rfl, _, rfl, q1, rfl, ⟨_, SqL.of e2⟩, fun D nD => ?_⟩
      refine lc_it (walk_list (xs := xs)) (fun m H' => Bag (SetOk (i + 1)) H2 D m H') ⟨Same.up nD, nD, [], upd_same, Nat.le_refl _, fun y hy => (nomatch hy)⟩ (fun m H' _ bg => SqL.of (bg.s _ _ e2)) ?_ ?_
      · rintro m y Hp H3 hm bg ⟨rfl, hy3⟩
        obtain ⟨t, S, rfl, et, hS, hS2, hS3⟩ := (z2 y (List.mem_of_getElem? hy3)).same bg.s
        refine ⟨rfl, iteT (B := Bag (SetOk (i + 1)) H2 D (m + 1) H3) ⟨_, rfl, _, rfl, by show 1 ≤ sizeLine; decide, fun u nu => ⟨t, u, _, _, rfl, rfl, (Same.up nu) _ _ et, upd_same, by rw [nv_len, sizeLine_eq]; show _ + 1 ≤ _; omega, fun v nv' => ?_⟩⟩⟩
        have bg2 := bg.sSame ((Same.up nu).trans (Same.up (o := .lst (nv S ++ [V.int (i : Nat)])) nv'))
        obtain ⟨ys, ey, _, _⟩ := bg.a
        refine bg2.sPush ⟨v, S ++ [i], rfl, ?_, fun p hp => ?_, ?_, by rw [List.length_append]; show _ + 1 ≤ _; omega⟩ (fun z => ?_) (by omega)
        · rw [upd_same]
          unfold nv natB
          rw [List.map_append, List.map_append]
          rfl
        · rcases List.mem_append.mp hp with z | z
          · have := hS p z
            omega
          · rw [List.mem_singleton.mp z]
            omega
        · exact List.pairwise_append.mpr ⟨hS2, List.pairwise_singleton _ _, fun x hx y hy => by rw [List.mem_singleton.mp hy]; exact hS x hx⟩
        · have z : v = D := by injection z
          rw [z] at nv'
          rw [(Same.up nu) _ _ ey] at nv'
          cases nv'
      · intro H3 bg
        obtain ⟨ys, ey, ly, zy⟩ := bg.a
        have e23 := bg.s _ _ e2
        refine ⟨q1, D, xs, ys, rfl, rfl, e23, ey, by rw [sizeLine_eq]; omega, fun r nr => ?_⟩
        have s4 := Same.up (o := .lst (xs ++ ys)) nr
        refine ⟨r, xs ++ ys, _, rfl, s2.trans (bg.s.trans s4), upd_same, by rw [List.getElem?_append_left (List.getElem?_eq_some_iff.mp f2).1]; exact f2, by rw [List.length_append, Nat.pow_succ]; omega, fun x hx => ?_⟩
        rcases List.mem_append.mp hx with hx | hx
        · exact (((z2 x hx).up (Nat.le_succ _)).same bg.s).same s4
        · exact (zy x hx).2.same s4
    rintro σ' H2 ⟨q1, xs, x3, rfl, s2, e2, f2, l2, z2⟩
    refine ⟨_, rfl, q1, rfl, ⟨_, SqL.of e2⟩, fun D nD => ?_⟩
    refine lc_it (walk_list (xs := xs)) (fun m H' => Bag (SetOk n) H2 D m H' ∧ (1 ≤ m → c = 0 → ∀ ys, H' D = some (.lst ys) → ys ≠ [])) ⟨⟨Same.up nD, nD, [], upd_same, Nat.le_refl _, fun y hy => (nomatch hy)⟩, fun h => by omega⟩ (fun m H' _ bg => SqL.of (bg.1.s _ _ e2)) ?_ ?_
    · rintro m y Hp H3 hm ⟨bg, nn⟩ ⟨rfl, hy3⟩
      have hm' : m < xs.length := hm
      have hzy := z2 y (List.mem_of_getElem? hy3)
      have hny : y ≠ V.ref D := fun z => by
        obtain ⟨t, S, e', et, _⟩ := hzy
        rw [e'] at z
        have z : t = D := by injection z
        rw [z, nD] at et
        cases et
      obtain ⟨t, S, rfl, et, hS⟩ := hzy.same bg.s
      refine ⟨rfl, _, rfl, t, _, rfl, .inl (SqL.of et), _, rfl, rfl, _, rfl, ?_⟩
      by_cases hc : S.length = c
      · refine ite_b (c := true) (decide_eq_true (by rw [nv_len, hc])) (iteT ⟨_, rfl, ?_⟩)
        obtain ⟨acc, ea, la, bg3⟩ := bg.sPush ⟨t, S, rfl, et, hS⟩ hny (by omega)
        refine ⟨acc, ea, la, bg3, fun _ _ ys ey z => ?_⟩
        rw [z, upd_same] at ey
        have ey : acc ++ [V.ref t] = [] := by injection ey with ey; injection ey
        exact List.append_ne_nil_of_right_ne_nil acc (by intro k; cases k) ey
      · refine ite_b (c := false) (decide_eq_false (fun z => hc (by injection z with z; rw [nv_len] at z; omega))) (iteF ?_)
        refine ⟨⟨bg.s, bg.n, let ⟨ys, e, l, z⟩ := bg.a; ⟨ys, e, Nat.le_succ_of_le l, z⟩⟩, fun _ h0 => ?_⟩
        by_cases hm0 : m = 0
        · rw [hm0, f2] at hy3
          have hy3 : e = t := by injection hy3 with hy3; injection hy3
          rw [← hy3, (s2.trans bg.s) _ _ ee] at et
          have et : nv [] = nv S := by injection et with et; injection et
          have := congrArg List.length et
          rw [nv_len, nv_len] at this
          exact absurd (show S.length = c by rw [h0, ← this]; rfl) hc
        · exact nn (by omega) h0
    · rintro H3 ⟨bg, nn⟩
      obtain ⟨ys, ey, ly, zy⟩ := bg.a
      exact q _ D ys (s1.trans (s2.trans bg.s)) ey (Nat.le_trans ly l2) (fun h0 => nn (by have := (List.getElem?_eq_some_iff.mp f2).1; exact this) h0 ys ey) fun x hx => (zy x hx).2
theorem b_lst (T : Tx K mg A) : L2.Binds K A.d__law_sets ["things", "count"] [] := T.F__law_sets.binds fun _ _ _ _ _ _ us hl => match us, hl with | [_, _], _ => rfl

end
end Tw

set_option Elab.async false
set_option linter.all false
set_option maxRecDepth 100000
set_option maxHeartbeats 2000000
namespace Tw
open PySem PySem.Spec PyProof.Rows L2
section
variable {P : Program} {w : World} {K : PySem.W.Frag} {mg : Str → Option Value} {base : Heap} {A : Ad}
open LamX (ExtN Tabs TabS)
/-! what the law changes: Bag walk_tup key_atI ints_at -/
theorem slTup {K : PySem.W.Frag} {H : Hp} {t : Addr} {xs : List V} {lo hi : Option Int} {Q : VK} (h : H t = some (.tup xs)) (q : ∀ (H' : Hp) (p : Addr), Same H H' → H' p = some (.tup (cutV xs lo hi)) → Q (.ref p) H') : rSlA K (.ref t) lo hi H Q :=
  ⟨t, xs, rfl, SqT.of h, fun e => q H t (Same.refl _) (by rw [SqT.whole e]; exact h), fun _ p np => q _ p (Same.up np) upd_same⟩
theorem cut_ints (ws : List Int) (lo hi : Option Int) : ∃ vs : List Int, cutV (ws.map V.int) lo hi = vs.map V.int ∧ vs.length ≤ ws.length := by
  unfold cutV
  rw [← List.map_drop, ← List.map_take]
  refine ⟨_, rfl, ?_⟩
  rw [List.length_take, List.length_drop]
  omega
theorem slInt {K : PySem.W.Frag} {H : Hp} {t : Addr} {ws : List Int} {lo hi : Option Int} {Q : VK} (h : H t = some (.tup (ws.map V.int))) (q : ∀ (H' : Hp) (p : Addr) (vs : List Int), Same H H' → H' p = some (.tup (vs.map V.int)) → vs.length ≤ ws.length → Q (.ref p) H') : rSlA K (.ref t) lo hi H Q := by
  refine slTup h fun H' p s e => ?_
  obtain ⟨vs, ev, lv⟩ := cut_ints ws lo hi
  rw [ev] at e
  exact q H' p vs s e lv
theorem catInt {K : PySem.W.Frag} {H : Hp} {a b : Addr} {us ws : List Int} {Q : VK} (ha : H a = some (.tup (us.map V.int))) (hb : H b = some (.tup (ws.map V.int))) (hl : us.length + ws.length ≤ 1000) (q : ∀ (H' : Hp) (p : Addr), Same H H' → H' p = some (.tup ((us ++ ws).map V.int)) → Q (.ref p) H') : rCatA K (.ref a) (.ref b) H Q := by
  refine ⟨a, b, _, _, rfl, rfl, SqT.of ha, SqT.of hb, by rw [List.length_map, List.length_map, sizeLine_eq]; omega, fun e => q H b (Same.refl _) ?_, fun _ e => q H a (Same.refl _) ?_, fun _ _ p np => q _ p (Same.up np) (by rw [upd_same, List.map_append])⟩
  · rw [List.map_append, e, List.nil_append]
    exact hb
  · rw [List.map_append, e, List.append_nil]
    exact ha
def TuOk (H : Hp) (x : V) : Prop := ∃ (t : Addr) (ws : List Int), x = .ref t ∧ H t = some (.tup (ws.map V.int)) ∧ ws.length ≤ 40
theorem TuOk.same {H H' : Hp} {x : V} (h : TuOk H x) (s : Same H H') : TuOk H' x := let ⟨t, S, e, q, r⟩ := h; ⟨t, S, e, s _ _ q, r⟩
theorem TuOk.put {H : Hp} {x : V} {D : Addr} {o : HO} (h : TuOk H x) (n : x ≠ .ref D) : TuOk (upd H D o) x := let ⟨t, S, e, q, r⟩ := h; ⟨t, S, e, (upd_ne (fun z => n (by rw [e, z]))).trans q, r⟩
theorem Bag.tSame {m : Nat} {H1 H H' : Hp} {D : Addr} (h : Bag TuOk H1 D m H) (s : Same H H') : Bag TuOk H1 D m H' := ⟨h.s.trans s, h.n, let ⟨ys, e, l, z⟩ := h.a; ⟨ys, s _ _ e, l, fun y hy => ⟨(z y hy).1, (z y hy).2.same s⟩⟩⟩
theorem Bag.tPush {m : Nat} {H1 H : Hp} {D : Addr} {x : V} (h : Bag TuOk H1 D m H) (hx : TuOk H x) (hm : m < 1000000) : ∃ acc, H D = some (.lst acc) ∧ acc.length < sizeLine ∧ Bag TuOk H1 D (m + 1) (upd H D (.lst (acc ++ [x]))) := by
  obtain ⟨ys, e, l, z⟩ := h.a
  have hn : x ≠ .ref D := fun w => by
    obtain ⟨t, S, e', q, r⟩ := hx
    rw [e'] at w
    have w : t = D := by injection w
    rw [w, e] at q
    cases q
  refine ⟨ys, e, by rw [sizeLine_eq]; omega, fun b o k => ?_, h.n, ys ++ [x], upd_same, by rw [List.length_append]; show _ + 1 ≤ _; omega, fun y hy => ?_⟩
  · rw [upd_ne (ne_of_none k h.n)]
    exact h.s _ _ k
  · rcases List.mem_append.mp hy with hy | hy
    · exact ⟨(z y hy).1, (z y hy).2.put (z y hy).1⟩
    · rw [List.mem_singleton.mp hy]
      exact ⟨hn, hx.put hn⟩
def spLch : Sp := fun vs H Q _ => ∃ (r t p : Nat) (ks told : List Int), vs = [.ref r, .ref t, .ref p] ∧ H r = some (.tup (ks.map V.int)) ∧ H t = some (.tup (told.map V.int)) ∧ ks.length ≤ 12 ∧ told.length = ks.length ∧ ∀ (H' : Hp) (q : Addr) (xs : List V), Same H H' → H' q = some (.lst xs) → xs.length ≤ 100 → (∀ x ∈ xs, TuOk H' x) → Q (.ref q) H'
theorem ok_lch (T : Tx K mg A) : FnOk P w K mg base CX0 1 A.f__law_changed A.d__law_changed ["row", "told", "places"] spLch := by
  refine T.F__law_changed.ok sc__law_changed (fun vs H Q E h => ?_) (fun cdv B outer s H vs Q E hr h => ?_)
  · obtain ⟨r, t, p, ks, told, rfl, _⟩ := h
    rfl
  · obtain ⟨r, t, p, ks, told, rfl, er, et, h12, hl, q⟩ := h
    have nd := sc__law_changed.nd
    refine ⟨_, (C8.pss_cut (ps_set (i := 4) nd rfl (Or.inl rfl) (pe_lst (pa_cons (pv 1) (pa_cons (pv 0) (pa_cons (pe_slice (r := rSlA K) sl_tupA (pv 1) po_none (po_some (pe_un un_neg pe_int))) (pa_cons (pe_op (r := rCatA K) op_catA (pv 1) (pe_slice (r := rSlA K) sl_tupA (pv 1) (po_some (pe_un un_neg pe_int)) po_none)) (pa_cons (pe_callTy (r := rTupK K) call_tupleK (by rfl) T.g_tuple (by decide +kernel) (pa_cons (pe_lc (own := [("key", 3)]) (g := gName 3) (tt := tYes) rfl nd (pi_tup (pv 1)) (blkOk_by (own := [("key", 3)]) (N := ["row", "told", "places", "key", "found", "place"]) (sc := defScope s__law_changed) (by decide +kernel)) (fun _ _ _ _ _ => pg_name (i := 3) nd rfl (Or.inl rfl)) (fun _ _ _ _ _ => pts_nil) (fun _ _ _ _ _ => (pe_op op_add (pv 3) pe_int))) pa_nil)) (pa_cons (pe_tup pa_nil) pa_nil))))))))
      (C8.pss_cut (ps_for PassesOwn.never rfl (pi_range1 rfl T.g_range (pa_cons (pe_callB (r := rLn K) call_len_seq (by rfl) T.g_len PySem.boot_len (pa_cons (pv 0) pa_nil)) pa_nil)) (pg_name (i := 5) nd rfl (Or.inl rfl)) (pss_one (ps_for PassesOwn.never rfl (pi_tup (pe_tup (pa_cons (pe_op op_sub (pe_ix (r := rIxT K) ix_tup (pv 1) (pv 5) (fun _ _ => rfl)) pe_int) (pa_cons (pe_op op_add (pe_ix (r := rIxT K) ix_tup (pv 1) (pv 5) (fun _ _ => rfl)) pe_int) (pa_cons (pe_un un_neg (pe_op op_pow pe_int pe_int)) (pa_cons (pe_op op_pow pe_int pe_int) (pa_cons (pe_op op_add (pe_op op_pow pe_int pe_int) pe_int) pa_nil))))))) (pg_name (i := 3) nd rfl (Or.inl rfl)) (pss_one (ps_expr (pe_bm PySem.F.plainAttrs_list PySem.F.slot_list_append PySem.F.type_list_append mt_append (pv 4) (pa_cons (pe_op (r := rCatA K) op_catA (pe_op (r := rCatA K) op_catA (pe_slice (r := rSlA K) sl_tupA (pv 1) po_none (po_some (pv 5))) (pe_tup (pa_cons (pv 3) pa_nil))) (pe_slice (r := rSlA K) sl_tupA (pv 1) (po_some (pe_op op_add (pv 5) pe_int)) po_none)) pa_nil)))))))
      (pss_one (ps_ret (pv 4))))), ?_⟩
    refine ⟨fun σ' H' => ∃ D : Addr, σ' = [some (.ref r), some (.ref t), some (.ref p), none, some (.ref D), none] ∧ Bag TuOk H D 6 H', ?_, ?_⟩
    · refine ⟨_, rfl, _, rfl, _, rfl, ?_⟩
      unfold tNoPart
      refine ⟨_, rfl, _, rfl, ?_⟩
      refine slInt et fun H1 p1 v1 s1 e1 l1 => ?_
      have et1 := s1 _ _ et
      refine ⟨_, rfl, _, rfl, _, rfl, _, rfl, ?_⟩
      refine slInt et1 fun H2 p2 v2 s2 e2 l2 => ?_
      have et2 := s2 _ _ et1
      refine catInt et2 e2 (by omega) fun H3 p3 s3 e3 => ?_
      have et3 := s3 _ _ et2
      have s03 := s1.trans (s2.trans s3)
      refine ⟨_, rfl, t, rfl, ⟨_, SqT.of et3⟩, fun D5 nD5 => ?_⟩
      refine lc_it (walk_tup (xs := told.map V.int)) (fun i H' => Acc H3 D5 (((told.take i).map (· + 1)).map V.int) H') (Acc.start nD5) (fun i H' _ ac => SqT.of (ac.s _ _ et3)) ?_ ?_
      · rintro i y Ho H4 hi ac ⟨rfl, hy⟩
        obtain ⟨hi2, rfl⟩ := ints_at hy
        refine ⟨rfl, iteT (B := Acc H3 D5 (((told.take (i + 1)).map (· + 1)).map V.int) H4) ⟨_, rfl, _, _, rfl, rfl, _, ac.a, by rw [List.length_map, List.length_map, List.length_take, sizeLine_eq]; omega, ?_⟩⟩
        rw [List.take_succ_eq_append_getElem hi2, List.map_append, List.map_append]
        exact ac.push
      · intro H4 ac
        rw [List.length_map, List.take_length] at ac
        have s4 := ac.s
        refine ⟨D5, _, rfl, .inl ⟨SqL.of ac.a, fun p5 n5 => ⟨by show 0 ≤ sizeLine; decide, fun p6 n6 => ⟨by show 6 ≤ sizeLine; decide, fun D nD => ⟨D, rfl, ?_⟩⟩⟩⟩⟩
        have s5 := Same.up (o := .tup ((told.map (· + 1)).map V.int)) n5
        have e5 : upd H4 p5 (.tup ((told.map (· + 1)).map V.int)) p5 = some (.tup ((told.map (· + 1)).map V.int)) := upd_same
        have s6 := Same.up (o := .tup []) n6
        have e6 : upd (upd H4 p5 (.tup ((told.map (· + 1)).map V.int))) p6 (.tup []) p6 = some (.tup (([] : List Int).map V.int)) := upd_same
        have s7 := Same.up (o := .lst [V.ref t, V.ref r, V.ref p1, V.ref p3, V.ref p5, V.ref p6]) nD
        have s04 := s03.trans (s4.trans (s5.trans (s6.trans s7)))
        have nD0 : H D = none := (s03.trans (s4.trans (s5.trans s6))).free nD
        have ok : ∀ x ∈ [V.ref t, V.ref r, V.ref p1, V.ref p3, V.ref p5, V.ref p6], TuOk (upd (upd (upd H4 p5 (.tup ((told.map (· + 1)).map V.int))) p6 (.tup [])) D (.lst [V.ref t, V.ref r, V.ref p1, V.ref p3, V.ref p5, V.ref p6])) x := fun x hx => by
          simp only [List.mem_cons, List.not_mem_nil, or_false] at hx
          rcases hx with rfl | rfl | rfl | rfl | rfl | rfl
          · exact ⟨t, told, rfl, s04 _ _ et, by omega⟩
          · exact ⟨r, ks, rfl, s04 _ _ er, by omega⟩
          · exact ⟨p1, v1, rfl, (s2.trans (s3.trans (s4.trans (s5.trans (s6.trans s7))))) _ _ e1, by omega⟩
          · exact ⟨p3, _, rfl, (s4.trans (s5.trans (s6.trans s7))) _ _ e3, by rw [List.length_append]; omega⟩
          · exact ⟨p5, _, rfl, (s6.trans s7) _ _ e5, by rw [List.length_map]; omega⟩
          · exact ⟨p6, [], rfl, s7 _ _ e6, by simp⟩
        refine ⟨s04, nD0, _, upd_same, Nat.le_refl _, fun y hy => ⟨fun z => ?_, ok y hy⟩⟩
        obtain ⟨t', ws, e', q', _⟩ := ok y hy
        rw [e'] at z
        have z : t' = D := by injection z
        rw [z, upd_same] at q'
        cases q'
    rintro σ' H1 ⟨D, rfl, bg1⟩
    refine ⟨fun σ' H' => ∃ x3 x5 : Option V, σ' = [some (.ref r), some (.ref t), some (.ref p), x3, some (.ref D), x5] ∧ Bag TuOk H D (6 + 5 * ks.length) H', ?_, ?_⟩
    · refine ⟨_, rfl, r, _, rfl, .inr (SqT.of (bg1.s _ _ er)), _, rfl, by rw [List.length_map]; omega, by rw [List.length_map]; omega, ?_⟩
      rw [Int.toNat_natCast, List.length_map]
      refine for_it (walk_range (lo := 0) (n := ks.length)) (fun i σ' H' => ∃ x3 x5 : Option V, σ' = [some (.ref r), some (.ref t), some (.ref p), x3, some (.ref D), x5] ∧ Bag TuOk H D (6 + 5 * i) H') ⟨none, none, rfl, bg1⟩ (fun _ _ _ _ _ => trivial) ?_ (fun _ _ z => z)
      rintro i y σ' Ho H2 hi ⟨x3, x5, rfl, bg2⟩ ⟨rfl, ey⟩
      obtain rfl : y = V.int (i : Nat) := by
        rw [ey]
        show V.int (0 + (i : Int)) = _
        rw [Int.zero_add]
      have hi2 : i < told.length := by omega
      have et2 := bg2.s _ _ et
      refine ⟨_, rfl, _, rfl, t, _, _, _, rfl, rfl, SqT.of et2, key_atI hi2, _, _, rfl, rfl, _, rfl, _, rfl, t, _, _, _, rfl, rfl, SqT.of et2, key_atI hi2, _, _, rfl, rfl, _, _, rfl, rfl, ⟨by decide, by decide, by decide⟩, _, rfl, _, _, rfl, rfl, ⟨by decide, by decide, by decide⟩, _, _, rfl, rfl, ⟨by decide, by decide, by decide⟩, _, _, rfl, rfl, by show 5 ≤ sizeLine; decide, fun u nu => ?_⟩
      obtain ⟨five, hf⟩ : ∃ five : List Int, five = [keyAt told i - 1, keyAt told i + 1, -((10 : Int) ^ ((9 : Int).toNat)), (10 : Int) ^ ((9 : Int).toNat), (10 : Int) ^ ((9 : Int).toNat) + 1] := ⟨_, rfl⟩
      have h5 : five.length = 5 := by rw [hf]; rfl
      have bg3 := bg2.tSame (Same.up (o := .tup (five.map V.int)) nu)
      have eu : upd H2 u (.tup (five.map V.int)) u = some (.tup (five.map V.int)) := upd_same
      have ee : five.map V.int = [V.int (keyAt told i - 1), V.int (keyAt told i + 1), V.int (-((10 : Int) ^ ((9 : Int).toNat))), V.int ((10 : Int) ^ ((9 : Int).toNat)), V.int ((10 : Int) ^ ((9 : Int).toNat) + 1)] := by rw [hf]; rfl
      rw [ee] at eu bg3
      refine ⟨u, rfl, ⟨_, SqT.of eu⟩, ?_⟩
      generalize upd H2 u (.tup [V.int (keyAt told i - 1), V.int (keyAt told i + 1), V.int (-((10 : Int) ^ ((9 : Int).toNat))), V.int ((10 : Int) ^ ((9 : Int).toNat)), V.int ((10 : Int) ^ ((9 : Int).toNat) + 1)]) = H3 at bg3 eu
      rw [← ee] at eu
      refine for_it (walk_tup (xs := five.map V.int)) (fun m σ' H' => ∃ x3 : Option V, σ' = [some (.ref r), some (.ref t), some (.ref p), x3, some (.ref D), some (.int (i : Nat))] ∧ Bag TuOk H D (6 + 5 * i + m) H' ∧ H' u = some (.tup (five.map V.int))) ⟨x3, rfl, bg3, eu⟩ (fun m σ' H' _ ⟨_, _, _, e⟩ => SqT.of e) ?_ (fun σ' H' ⟨x3, e, bg, _⟩ => by
        rw [List.length_map, h5] at bg
        exact ⟨x3, _, e, bg⟩)
      rintro m y σ' Hp H4 hm ⟨x3, rfl, bg4, eu4⟩ ⟨rfl, hy⟩
      rw [List.length_map] at hm
      obtain ⟨hm2, rfl⟩ := ints_at hy
      have et4 := bg4.s _ _ et
      obtain ⟨ys, ey4, _, _⟩ := bg4.a
      refine ⟨_, rfl, .inl ⟨rfl, _, SqL.of ey4⟩, _, rfl, ?_⟩
      unfold tNoPart
      refine ⟨_, rfl, _, rfl, ?_⟩
      refine slInt et4 fun H5 p1 v1 s1 e1 l1 => ?_
      refine ⟨_, rfl, by show 1 ≤ sizeLine; decide, fun w1 nw1 => ?_⟩
      have s2 := Same.up (o := .tup [V.int five[m]]) nw1
      have e2 : upd H5 w1 (.tup [V.int five[m]]) w1 = some (.tup ([five[m]].map V.int)) := upd_same
      generalize upd H5 w1 (.tup [V.int five[m]]) = H6 at s2 e2
      refine catInt (s2 _ _ e1) e2 (by show _ + 1 ≤ 1000; omega) fun H7 p3 s3 e3 => ?_
      have et7 := s3 _ _ (s2 _ _ (s1 _ _ et4))
      refine ⟨_, rfl, _, rfl, _, _, rfl, rfl, _, rfl, ?_⟩
      refine slInt et7 fun H8 p4 v4 s4 e4 l4 => ?_
      refine catInt (s4 _ _ e3) e4 (by rw [List.length_append]; show _ + 1 + _ ≤ 1000; omega) fun H9 p5 s5 e5 => ?_
      have sAll := s1.trans (s2.trans (s3.trans (s4.trans s5)))
      obtain ⟨acc, a1, a2, a3⟩ := (bg4.tSame sAll).tPush (x := .ref p5) ⟨p5, _, rfl, e5, by rw [List.length_append, List.length_append]; show _ + 1 + _ ≤ 40; omega⟩ (by omega)
      have eu9 := sAll _ _ eu4
      exact ⟨D, acc, _, rfl, rfl, a1, a2, _, rfl, a3, (upd_ne (ne_of eu9 a1 (by intro z; cases z))).trans eu9⟩
    rintro σ' H2 ⟨x3, x5, rfl, bg2⟩
    obtain ⟨ys, ey, ly, zy⟩ := bg2.a
    exact ⟨_, rfl, q _ D ys bg2.s ey (by omega) fun x hx => (zy x hx).2⟩
theorem b_lch (T : Tx K mg A) : L2.Binds K A.d__law_changed ["row", "told", "places"] [] := T.F__law_changed.binds fun _ _ _ _ _ _ us hl => match us, hl with | [_, _, _], _ => rfl

end
end Tw

set_option Elab.async false
set_option linter.all false
set_option maxRecDepth 100000
set_option maxHeartbeats 2000000
namespace Tw
open PySem PySem.Spec PyProof.Rows L2
section
variable {P : Program} {w : World} {K : PySem.W.Frag} {mg : Str → Option Value} {base : Heap} {A : Ad}
open LamX (ExtN Tabs TabS)
/-- a tuple of keys at an address -/
def RowAt (H : Hp) (v : V) (l : List Int) : Prop := ∃ t, v = .ref t ∧ H t = some (.tup (l.map V.int))
abbrev RowsAt (H : Hp) : List V → List (List Int) → Prop := Paired (RowAt H)
structure AccR (H1 : Hp) (D : Addr) (ls : List (List Int)) (H : Hp) : Prop where
  s : Same H1 H
  n : H1 D = Option.none
  a : ∃ xs, H D = some (.lst xs) ∧ RowsAt H xs ls
theorem RowsAt.push {H : Hp} {x : V} {l : List Int} (hp : RowAt H x l) : ∀ {xs : List V} {ls : List (List Int)}, RowsAt H xs ls → RowsAt H (xs ++ [x]) (ls ++ [l])
  | _, _, .nil => .cons hp .nil
  | _, _, .cons a b => .cons a (RowsAt.push hp b)
theorem RowsAt.put {H : Hp} {D : Addr} {xs zs ys : List V} {ls : List (List Int)} (hD : H D = some (.lst zs)) (h : RowsAt H xs ls) : RowsAt (upd H D (.lst ys)) xs ls :=
  L2.Paired.mapP h fun _ _ ⟨t, e, z⟩ => ⟨t, e, by rw [upd_ne (ne_of z hD (by intro q; cases q))]; exact z⟩
theorem AccR.push {H1 H : Hp} {D : Addr} {ls : List (List Int)} {x : V} {l : List Int} (h : AccR H1 D ls H) (hp : RowAt H x l) (hl : ls.length < sizeLine) :
    ∃ acc, H D = some (.lst acc) ∧ acc.length < sizeLine ∧ AccR H1 D (ls ++ [l]) (upd H D (.lst (acc ++ [x]))) := by
  obtain ⟨xs, e, z⟩ := h.a
  refine ⟨xs, e, by rw [z.length]; exact hl, fun b o k => ?_, h.n, xs ++ [x], upd_same, (RowsAt.push hp z).put e⟩
  rw [upd_ne (ne_of_none k h.n)]
  exact h.s b o k
theorem RowsAt.same {H H' : Hp} {xs : List V} {ls : List (List Int)} (h : RowsAt H xs ls) (s : Same H H') : RowsAt H' xs ls := L2.Paired.mapP h fun _ _ ⟨t, e, z⟩ => ⟨t, e, s _ _ z⟩
theorem AccR.same {H1 H H' : Hp} {D : Addr} {ls : List (List Int)} (h : AccR H1 D ls H) (s : Same H H') : AccR H1 D ls H' := ⟨h.s.trans s, h.n, let ⟨xs, e, z⟩ := h.a; ⟨xs, s _ _ e, z.same s⟩⟩
theorem AccR.start {H1 : Hp} {D : Addr} (n : H1 D = none) : AccR H1 D [] (upd H1 D (.lst [])) := ⟨Same.up n, n, [], upd_same, .nil⟩
theorem RowsAt.app {H : Hp} : ∀ {xs ys : List V} {ls ms : List (List Int)}, RowsAt H xs ls → RowsAt H ys ms → RowsAt H (xs ++ ys) (ls ++ ms)
  | _, _, _, _, .nil, h => h
  | _, _, _, _, .cons a b, h => .cons a (RowsAt.app b h)
theorem RowsAt.get {H : Hp} : ∀ {xs : List V} {ls : List (List Int)} {i : Nat} {x : V}, RowsAt H xs ls → xs[i]? = some x → ∃ hi : i < ls.length, RowAt H x ls[i]
  | _, _, 0, _, .cons a _, e => ⟨Nat.succ_pos _, by rw [← Option.some.inj e]; exact a⟩
  | _, _, i + 1, _, .cons _ b, e => by
    obtain ⟨hi, r⟩ := RowsAt.get b (by simpa using e)
    exact ⟨Nat.succ_lt_succ hi, r⟩
end
end Tw

set_option Elab.async false
set_option linter.all false
set_option maxRecDepth 100000
set_option maxHeartbeats 2000000
namespace Tw
open PySem PySem.Spec PyProof.Rows L2
section
variable {P : Program} {w : World} {K : PySem.W.Frag} {mg : Str → Option Value} {base : Heap} {A : Ad}
open LamX (ExtN Tabs TabS)
/-! the law's rows: RowsAt RowsAt.same RowsAt.app RowsAt.get RowsAt.push AccR AccR.start AccR.same AccR.push HeapL keyAt_snoc catInt nv inV_nv nv_flat walk_range walk_list ints_at Acc SetO -/
def innB (z : Int) : Bool := decide (-1000000000 < z ∧ z < 1000000000)
structure NearOk (nr ks : List Int) : Prop where
  len : nr.length ≤ 14
  bd : ∀ z ∈ nr, -1000000000 ≤ z ∧ z ≤ 1000000000
  lo : (-1000000000 : Int) ∈ nr
  hi : (1000000000 : Int) ∈ nr
  key : ∀ z ∈ ks, z ∈ nr
theorem near_ok {ns ks : List Int} (hm : ∀ z, z ∈ ns ↔ z ∈ ks) (hl : ns.length ≤ 12) (hb : ∀ z ∈ ks, -1000000000 ≤ z ∧ z ≤ 1000000000) : NearOk ([-1000000000] ++ ns.filter innB ++ [1000000000]) ks := by
  refine ⟨?_, fun z hz => ?_, by simp, by simp, fun z hz => ?_⟩
  · have := List.length_filter_le innB ns
    rw [List.length_append, List.length_append]
    show 1 + _ + 1 ≤ 14
    omega
  · rcases List.mem_append.mp hz with hz | hz
    · rcases List.mem_append.mp hz with hz | hz
      · rw [List.mem_singleton.mp hz]
        omega
      · exact hb z ((hm z).mp (List.mem_filter.mp hz).1)
    · rw [List.mem_singleton.mp hz]
      omega
  · have b := hb z hz
    by_cases c1 : z = -1000000000
    · rw [c1]
      simp
    · by_cases c2 : z = 1000000000
      · rw [c2]
        simp
      · refine List.mem_append_left _ (List.mem_append_right _ (List.mem_filter.mpr ⟨(hm z).mpr hz, ?_⟩))
        unfold innB
        rw [decide_eq_true_eq]
        omega
def ableL (nr ks : List Int) (P : List Nat) (k : Nat) : List Int := if k ∈ P then [keyAt ks k] else nr
def lstA (w : Nat) (s : List Int) (k : Nat) : Int := if 0 < k then keyAt s ((k - 1) / w) else -1000000000
def outL (nr ks : List Int) (P : List Nat) (w k : Nat) (s : List Int) : List (List Int) := ((ableL nr ks P k).filter fun key => decide (lstA w s k ≤ key)).map fun key => s ++ [key]
def rwL (nr ks : List Int) (P : List Nat) (w : Nat) : Nat → List (List Int)
  | 0 => [[]]
  | k + 1 => (rwL nr ks P w k).flatMap (outL nr ks P w k)
theorem rw_in {nr ks : List Int} {P : List Nat} {w : Nat} : ∀ (k : Nat) (s : List Int), s ∈ rwL nr ks P w k → s.length = k ∧ (∀ c, c < k → keyAt s c ∈ ableL nr ks P c) ∧ HeapL k w s
  | 0, s, h => by
    rw [List.mem_singleton.mp h]
    exact ⟨rfl, fun c hc => absurd hc (Nat.not_lt_zero _), fun c _ hc => absurd hc (Nat.not_lt_zero _)⟩
  | k + 1, s, h => by
    obtain ⟨s0, h0, h1⟩ := List.mem_flatMap.mp h
    obtain ⟨i1, i2, i3⟩ := rw_in k s0 h0
    obtain ⟨key, hk, rfl⟩ := List.mem_map.mp h1
    obtain ⟨hk1, hk2⟩ := List.mem_filter.mp hk
    have hk2 : lstA w s0 k ≤ key := of_decide_eq_true hk2
    refine ⟨by rw [List.length_append, i1]; rfl, fun c hc => ?_, fun c h1 hc => ?_⟩
    · rw [keyAt_snoc]
      by_cases e : c < k
      · rw [if_pos (by omega)]
        exact i2 c e
      · rw [if_neg (by omega), if_pos (by omega), show c = k by omega]
        exact hk1
    · have hd := Nat.div_le_self (c - 1) w
      rw [keyAt_snoc, keyAt_snoc, if_pos (by omega)]
      by_cases e : c < k
      · rw [if_pos (by omega)]
        exact i3 c h1 e
      · obtain rfl : c = k := by omega
        rw [if_neg (by omega), if_pos (by omega)]
        unfold lstA at hk2
        rw [if_pos (by omega)] at hk2
        exact hk2
theorem take_snoc {l : List Int} {k : Nat} (h : k < l.length) : l.take (k + 1) = l.take k ++ [keyAt l k] := by
  rw [List.take_succ_eq_append_getElem h, keyAt_get h]
theorem keyAt_take {l : List Int} {k c : Nat} (h : c < k) : keyAt (l.take k) c = keyAt l c := by
  unfold keyAt
  rw [List.getD_eq_getElem?_getD, List.getD_eq_getElem?_getD, List.getElem?_take_of_lt h]
theorem in_rw {nr ks late : List Int} {P : List Nat} {w n : Nat} (hl : late.length = n) (ha : ∀ c, c < n → keyAt late c ∈ ableL nr ks P c) (hb : ∀ z ∈ late, -1000000000 ≤ z) (hh : HeapL n w late) : ∀ k, k ≤ n → late.take k ∈ rwL nr ks P w k
  | 0, _ => List.mem_singleton.mpr rfl
  | k + 1, hk => by
    refine List.mem_flatMap.mpr ⟨_, in_rw hl ha hb hh k (by omega), ?_⟩
    rw [take_snoc (by omega)]
    refine List.mem_map.mpr ⟨keyAt late k, List.mem_filter.mpr ⟨ha k (by omega), decide_eq_true ?_⟩, rfl⟩
    unfold lstA
    by_cases h0 : 0 < k
    · have hd := Nat.div_le_self (k - 1) w
      rw [if_pos h0, keyAt_take (by omega)]
      exact hh k h0 (by omega)
    · rw [if_neg h0]
      exact hb _ (keyAt_mem (by omega))
theorem rw_agr {nr ks s : List Int} {P : List Nat} {w : Nat} (hn : NearOk nr ks) (hb : ∀ z ∈ ks, -1000000000 ≤ z ∧ z ≤ 1000000000) (hP : ∀ p ∈ P, p < ks.length) (h : s ∈ rwL nr ks P w ks.length) : Agr ks.length w P ks s := by
  obtain ⟨h1, h2, h3⟩ := rw_in _ _ h
  refine ⟨h1, fun z hz => ?_, h3, fun p hp => ?_⟩
  · obtain ⟨i, hi, rfl⟩ := keyAt_of hz
    have a := h2 i (by omega)
    unfold ableL at a
    by_cases c : i ∈ P
    · rw [if_pos c] at a
      rw [List.mem_singleton.mp a]
      exact hb _ (keyAt_mem (by omega))
    · rw [if_neg c] at a
      exact hn.bd _ a
  · have a := h2 p (hP p hp)
    unfold ableL at a
    rw [if_pos hp] at a
    exact List.mem_singleton.mp a
/-- a heap that agrees, with keys near by, is among the rows -/
theorem agr_rw {nr ks s : List Int} {P : List Nat} {w : Nat} (a : Agr ks.length w P ks s) (h : ∀ c, c < ks.length → keyAt s c ∈ nr) : s ∈ rwL nr ks P w ks.length := by
  have z := in_rw (nr := nr) (ks := ks) (P := P) a.len (fun c hc => by
    unfold ableL
    by_cases e : c ∈ P
    · rw [if_pos e, a.at' c e]
      exact List.mem_singleton.mpr rfl
    · rw [if_neg e]
      exact h c hc) (fun z hz => (a.bd z hz).1) a.hp ks.length (Nat.le_refl _)
  rw [List.take_of_length_le (by rw [a.len]; exact Nat.le_refl _)] at z
  exact z
theorem rw_small {nr ks : List Int} {P : List Nat} {w : Nat} (hn : nr.length ≤ 14) : ∀ k, (rwL nr ks P w k).length ≤ 14 ^ k
  | 0 => Nat.le_refl _
  | k + 1 => by
    show ((rwL nr ks P w k).flatMap (outL nr ks P w k)).length ≤ _
    have ho : ∀ s, (outL nr ks P w k s).length ≤ 14 := fun s => by
      unfold outL
      rw [List.length_map]
      refine Nat.le_trans (List.length_filter_le _ _) ?_
      unfold ableL
      split
      · show 1 ≤ 14
        decide
      · exact hn
    have hf : ∀ l : List (List Int), (l.flatMap (outL nr ks P w k)).length ≤ l.length * 14 := fun l => by
      induction l with
      | nil => exact Nat.le_refl _
      | cons a l ih =>
        rw [List.flatMap_cons, List.length_append, List.length_cons]
        have := ho a
        omega
    have h1 := hf (rwL nr ks P w k)
    have h2 := rw_small (ks := ks) (P := P) (w := w) hn k
    rw [Nat.pow_succ]
    exact Nat.le_trans h1 (Nat.mul_le_mul_right _ h2)
/-- rows of the law differ somewhere, just if it isn't settled -/
theorem settles_rows {nr ks : List Int} {P : List Nat} {w c : Nat} {L G : List Int} (hw : 1 ≤ w) (hn : NearOk nr ks) (ag : Agr ks.length w P ks ks) (hP : ∀ p ∈ P, p < ks.length) (hL : IsLs ks.length w P ks L) (hG : IsGs ks.length w P ks G) :
    Settles ks.length w P ks c ↔ ∀ s ∈ rwL nr ks P w ks.length, (srtI s).take c = (srtI ks).take c := by
  refine ⟨fun h s hs => h s (rw_agr hn ag.bd hP hs), fun h => ?_⟩
  refine settles_of hw rfl hL hG (h L (agr_rw (ls_agr hL ag hP) fun i hi => ?_)) (h G (agr_rw (gs_agr hw hG ag hP) fun i hi => ?_))
  · rcases ls_near hL rfl (i + 1) i (Nat.lt_succ_self _) hi with e | e
    · rw [e]
      exact hn.lo
    · exact hn.key _ e
  · rcases gs_near hw hG rfl (ks.length + 1) i (by omega) hi with e | e
    · rw [e]
      exact hn.hi
    · exact hn.key _ e
theorem min_ex (f : Nat → Int) : ∀ l : List Nat, l ≠ [] → ∃ c ∈ l, ∀ d ∈ l, f c ≤ f d
  | [], h => absurd rfl h
  | [a], _ => ⟨a, List.mem_singleton.mpr rfl, fun d hd => by rw [List.mem_singleton.mp hd]; exact Int.le_refl _⟩
  | a :: b :: l, _ => by
    obtain ⟨c, hc, h⟩ := min_ex f (b :: l) (List.cons_ne_nil _ _)
    by_cases e : f a ≤ f c
    · refine ⟨a, List.mem_cons_self, fun d hd => ?_⟩
      rcases List.mem_cons.mp hd with z | z
      · rw [z]
        exact Int.le_refl _
      · exact Int.le_trans e (h d z)
    · refine ⟨c, List.mem_cons_of_mem _ hc, fun d hd => ?_⟩
      rcases List.mem_cons.mp hd with z | z
      · rw [z]
        omega
      · exact h d z
theorem ls_ex (w : Nat) (P : List Nat) (ks : List Int) : ∀ i, ∃ L, IsLs i w P ks L
  | 0 => ⟨[], rfl, fun i hi => absurd hi (Nat.not_lt_zero _)⟩
  | i + 1 => by
    obtain ⟨L, h⟩ := ls_ex w P ks i
    by_cases c : i ∈ P
    · exact ⟨_, h.step (fun _ => rfl) (fun z => absurd c z) (fun z => absurd c z)⟩
    · by_cases c0 : i = 0
      · exact ⟨_, h.step (fun z => absurd z c) (fun _ _ => rfl) (fun _ z => by omega)⟩
      · exact ⟨_, h.step (fun z => absurd z c) (fun _ z => absurd z c0) (fun _ _ => rfl)⟩
theorem gs_ex {n w : Nat} (hw : 1 ≤ w) (P : List Nat) (ks : List Int) : ∀ j, j ≤ n → ∃ G, GsI n w P ks j G
  | 0, _ => ⟨List.replicate n 1000000000, List.length_replicate, fun i hi => by unfold keyAt; rw [List.getD_eq_getElem?_getD, List.getElem?_replicate, if_pos (by omega)]; rfl, fun i hi hn => by omega⟩
  | j + 1, hj => by
    obtain ⟨G, h⟩ := gs_ex (n := n) hw P ks j (Nat.le_of_succ_le hj)
    by_cases c : n - 1 - j ∈ P
    · exact ⟨_, h.step hw (by omega) (fun _ => rfl) (fun z => absurd c z) (fun z => absurd c z)⟩
    · by_cases c0 : kidL n w (n - 1 - j) = []
      · exact ⟨_, h.skip hw (by omega) c c0⟩
      · obtain ⟨k, hk, hm⟩ := min_ex (keyAt G) _ c0
        exact ⟨_, h.step hw (by omega) (fun z => absurd z c) (fun _ z => absurd z c0) (fun _ _ => ⟨⟨k, hk, rfl⟩, hm⟩)⟩
theorem settles_iff {nr ks : List Int} {P : List Nat} {w c : Nat} (hw : 1 ≤ w) (hn : NearOk nr ks) (ag : Agr ks.length w P ks ks) (hP : ∀ p ∈ P, p < ks.length) :
    Settles ks.length w P ks c ↔ ∀ s ∈ rwL nr ks P w ks.length, (srtI s).take c = (srtI ks).take c := by
  obtain ⟨L, hL⟩ := ls_ex w P ks ks.length
  obtain ⟨G, hG⟩ := gs_ex hw P ks ks.length (Nat.le_refl _)
  exact settles_rows hw hn ag hP hL hG.is

end
end Tw

set_option Elab.async false
set_option linter.all false
set_option maxRecDepth 100000
set_option maxHeartbeats 2000000
namespace Tw
open PySem PySem.Spec PyProof.Rows L2
section
variable {P : Program} {w : World} {K : PySem.W.Frag} {mg : Str → Option Value} {base : Heap} {A : Ad}
open LamX (ExtN Tabs TabS)
/-! _law_rows: NearOk near_ok rwL outL ableL lstA innB rw_in rw_small RowsAt RowsAt.same RowsAt.app RowsAt.get RowsAt.len AccR AccR.start AccR.same AccR.push catInt nv inV_nv nv_flat walk_range walk_list ints_at Acc Paired.length -/
theorem gen_up {α : Prop} (H1 : Hp) (M : Hp → Prop) (ps p2 : Addr) (o : HO) (xs : List V) (n1 : H1 ps = none) (n2 : upd H1 ps o p2 = none) (h : ∀ H2 : Hp, Same H1 H2 → H2 p2 = some (.lst xs) → M H2) : M (upd (upd H1 ps o) p2 (.lst xs)) := h _ ((Same.up n1).trans (Same.up n2)) upd_same
theorem sortedSetTu {K : PySem.W.Frag} {w : World} {H : Hp} {r : Addr} {ks : List Int} {Q : VK} (h : SqT K H r (ks.map V.int)) (hl : ks.length ≤ 60) (q : ∀ (H' : Hp) (p : Addr) (ns : List Int), Same H H' → H' p = some (.lst (ns.map V.int)) → (∀ z, z ∈ ns ↔ z ∈ ks) → ns.length ≤ ks.length → Q (.ref p) H') : rSetTI K w [.ref r] H (fun x H' => rSortedSet w [x] H' Q) :=
  ⟨r, ks, rfl, h, by omega, fun ps m hm nps => ⟨ps, _, m, rfl, upd_same, by omega, fun ns p2 _ hmem hlen np2 => q _ p2 ns ((Same.up nps).trans (Same.up np2)) upd_same (fun z => by rw [hmem, decide_eq_true_eq]) (by omega)⟩⟩
def spLrw : Sp := fun vs H Q _ => ∃ (r w p : Nat) (ks : List Int) (P : List Nat), vs = [.ref r, .int w, .ref p] ∧ (1 ≤ w ∧ w ≤ 4) ∧ H r = some (.tup (ks.map V.int)) ∧ ks.length ≤ 4 ∧ (∀ z ∈ ks, -1000000000 ≤ z ∧ z ≤ 1000000000) ∧ H p = some (.tup (nv P)) ∧
  ∀ (H' : Hp) (q : Addr) (xs : List V) (nr : List Int), Same H H' → H' q = some (.lst xs) → NearOk nr ks → RowsAt H' xs (rwL nr ks P w ks.length) → Q (.ref q) H'
theorem ok_lrw (T : Tx K mg A) : FnOk P w K mg base CX0 1 A.f__law_rows A.d__law_rows ["row", "wide", "places"] spLrw := by
  refine T.F__law_rows.ok sc__law_rows (fun vs H Q E h => ?_) (fun cdv B outer s H vs Q E hr h => ?_)
  · obtain ⟨r, w, p, ks, P, rfl, _⟩ := h
    rfl
  · obtain ⟨r, w1, p, ks, P, rfl, hw, er, h4, hbd, ep, q⟩ := h
    have nd := sc__law_rows.nd
    have e9 : (10 : Int) ^ ((9 : Int).toNat) = 1000000000 := by decide
    refine ⟨_, (C8.pss_cut (ps_set (i := 3) nd rfl (Or.inl rfl) (pe_op op_cat (pe_op op_cat (pe_lst (pa_cons (pe_un un_neg (pe_op op_pow pe_int pe_int)) pa_nil)) (pe_lc (own := [("key", 10)]) (g := gName 10) rfl nd (pi_list (pe_callB (cr_sortedSet rfl) (by rfl) T.g_sorted (by decide +kernel) (pa_cons (pe_callTy (cr_setTI rfl) (by rfl) T.g_set (by decide +kernel) (pa_cons (pv 0) pa_nil)) pa_nil))) (blkOk_by (own := [("key", 10)]) (N := ["row", "wide", "places", "near", "found", "place", "late", "some", "least", "able", "key"]) (sc := defScope s__law_rows) (by decide +kernel)) (fun _ _ _ _ _ => pg_name (i := 10) nd rfl (Or.inl rfl)) (fun _ _ _ _ _ => pts_one (pt_chain op_lt op_lt (pe_un un_neg (pe_op op_pow pe_int pe_int)) (pv 10) (pe_op op_pow pe_int pe_int))) (fun _ _ _ _ _ => (pv 10)))) (pe_lst (pa_cons (pe_op op_pow pe_int pe_int) pa_nil))))
      (C8.pss_cut (ps_set (i := 4) nd rfl (Or.inl rfl) (pe_lst (pa_cons (pe_tup pa_nil) pa_nil)))
      (C8.pss_cut (ps_for PassesOwn.never rfl (pi_range1 rfl T.g_range (pa_cons (pe_callB (r := rLn K) call_len_seq (by rfl) T.g_len PySem.boot_len (pa_cons (pv 0) pa_nil)) pa_nil)) (pg_name (i := 5) nd rfl (Or.inl rfl)) (pss_cons (ps_set (i := 6) nd rfl (Or.inl rfl) (pe_lst pa_nil))
      (C8.pss_cut (ps_for PassesOwn.never rfl (pi_list (pv 4)) (pg_name (i := 7) nd rfl (Or.inr rfl)) (C8.pss_cut (ps_set (i := 8) nd rfl (Or.inr rfl) (pe_ifExp (pt_cmpR op_gt (pv 5) pe_int (nomark _)) (pe_ix (r := rIxT K) ix_tup (pv 7) (pe_op op_fdiv (pe_op op_sub (pv 5) pe_int) (pv 1)) (fun _ _ => rfl)) (pe_un un_neg (pe_op op_pow pe_int pe_int))))
      (C8.pss_cut (ps_set (i := 9) nd rfl (Or.inl rfl) (pe_ifExp (pt_cmpR (r := L2.rIn K false) op_in_seq (pv 5) (pv 2) (by rfl)) (pe_lst (pa_cons (pe_ix (r := rIxT K) ix_tup (pv 0) (pv 5) (fun _ _ => rfl)) pa_nil)) (pv 3)))
      (pss_one (ps_set (i := 6) nd rfl (Or.inl rfl) (pe_op op_cat (pv 6) (pe_lc (own := [("key", 10)]) (g := gName 10) rfl nd (pi_list (pv 9)) (blkOk_by (own := [("key", 10)]) (N := ["row", "wide", "places", "near", "found", "place", "late", "some", "least", "able", "key"]) (sc := defScope s__law_rows) (by decide +kernel)) (fun _ _ _ _ _ => pg_name (i := 10) nd rfl (Or.inl rfl)) (fun _ _ _ _ _ => pts_one (pt_cmpR op_ge (pv 10) (pv 8) (nomark _))) (fun _ _ _ _ _ => (pe_op (r := rCatA K) op_catA (pv 7) (pe_tup (pa_cons (pv 10) pa_nil)))))))))))
      (pss_one (ps_set (i := 4) nd rfl (Or.inl rfl) (pv 6))))))
      (pss_one (ps_ret (pv 4)))))), ?_⟩
    refine ⟨fun σ' H' => ∃ (d : Addr) (nr : List Int), σ' = [some (.ref r), some (.int w1), some (.ref p), some (.ref d), none, none, none, none, none, none, none] ∧ Same H H' ∧ H' d = some (.lst (nr.map V.int)) ∧ NearOk nr ks, ?_, ?_⟩
    · refine ⟨_, _, rfl, rfl, ⟨by decide, by decide, by decide⟩, _, rfl, by show 1 ≤ sizeLine; decide, fun a1 n1 => ?_⟩
      have s1 := Same.up (o := .lst [V.int (-((10 : Int) ^ ((9 : Int).toNat)))]) n1
      have e1 : upd H a1 (.lst [V.int (-((10 : Int) ^ ((9 : Int).toNat)))]) a1 = some (.lst ([(-1000000000 : Int)].map V.int)) := by rw [upd_same, e9]; rfl
      generalize upd H a1 (.lst [V.int (-((10 : Int) ^ ((9 : Int).toNat)))]) = H1 at s1 e1
      refine ⟨_, rfl, r, ks, rfl, SqT.of (s1 _ _ er), by omega, fun ps m hm nps => ?_⟩
      refine ⟨ps, _, m, rfl, upd_same, by omega, fun ns p2 hasc hmem' hlen np2 => ?_⟩
      have hmem : ∀ z, z ∈ ns ↔ z ∈ ks := fun z => by rw [hmem', decide_eq_true_eq]
      refine @gen_up True H1 _ ps p2 _ (ns.map V.int) nps np2 fun H2 s2 e2 => ?_
      have hns : ns.length ≤ 4 := by omega
      refine ⟨p2, rfl, ⟨_, SqL.of e2⟩, fun D nD => ?_⟩
      refine lc_it (walk_list (xs := ns.map V.int)) (fun i H' => Acc H2 D (((ns.take i).filter innB).map V.int) H') (Acc.start nD) (fun i H' _ ac => SqL.of (ac.s _ _ e2)) ?_ ?_
      · rintro i y Ho H3 hi ac ⟨rfl, hy⟩
        obtain ⟨hi2, rfl⟩ := ints_at hy
        have hfl := List.length_filter_le innB (ns.take i)
        rw [List.length_take] at hfl
        rw [List.take_succ_eq_append_getElem hi2, List.filter_append]
        have no : innB ns[i] = false → Acc H2 D (((ns.take i).filter innB ++ [ns[i]].filter innB).map V.int) H3 := fun h => by
          rw [List.filter_cons_of_neg (by rw [h]; exact Bool.false_ne_true), List.filter_nil, List.append_nil]
          exact ac
        have yes : innB ns[i] = true → ∃ acc, H3 D = some (.lst acc) ∧ acc.length < sizeLine ∧ Acc H2 D (((ns.take i).filter innB ++ [ns[i]].filter innB).map V.int) (upd H3 D (.lst (acc ++ [V.int ns[i]]))) := fun h => by
          refine ⟨_, ac.a, by rw [List.length_map, sizeLine_eq]; omega, ?_⟩
          rw [List.filter_cons_of_pos h, List.filter_nil, List.map_append]
          exact ac.push
        refine ⟨rfl, _, _, rfl, rfl, ⟨by decide, by decide, by decide⟩, _, rfl, _, rfl, _, _, rfl, rfl, _, rfl, ?_⟩
        by_cases h1 : -1000000000 < ns[i]
        · refine ite_b (c := true) (decide_eq_true (by show -((10 : Int) ^ ((9 : Int).toNat)) < _; rw [e9]; exact h1)) (iteT ⟨_, _, rfl, rfl, ⟨by decide, by decide, by decide⟩, _, _, rfl, rfl, _, rfl, ?_⟩)
          by_cases h2 : ns[i] < 1000000000
          · exact ite_b (c := true) (decide_eq_true (by show _ < (10 : Int) ^ ((9 : Int).toNat); rw [e9]; exact h2)) (iteT ⟨_, rfl, yes (decide_eq_true ⟨h1, h2⟩)⟩)
          · exact ite_b (c := false) (decide_eq_false (by show ¬ _ < (10 : Int) ^ ((9 : Int).toNat); rw [e9]; exact h2)) (iteF (no (decide_eq_false fun z => h2 z.2)))
        · exact ite_b (c := false) (decide_eq_false (by show ¬ -((10 : Int) ^ ((9 : Int).toNat)) < _; rw [e9]; exact h1)) (iteF ⟨_, rfl, iteF (no (decide_eq_false fun z => h1 z.1))⟩)
      · intro H3 ac
        rw [List.length_map, List.take_length] at ac
        have hfl := List.length_filter_le innB ns
        refine ⟨a1, D, _, _, rfl, rfl, ac.s _ _ (s2 _ _ e1), ac.a, by rw [List.length_map, List.length_map, sizeLine_eq]; show 1 + _ ≤ _; omega, fun p1 np1 => ?_⟩
        rw [← List.map_append]
        have s3 := Same.up (o := .lst (([(-1000000000 : Int)] ++ ns.filter innB).map V.int)) np1
        have e3 : upd H3 p1 (.lst (([(-1000000000 : Int)] ++ ns.filter innB).map V.int)) p1 = some (.lst (([(-1000000000 : Int)] ++ ns.filter innB).map V.int)) := upd_same
        generalize upd H3 p1 (.lst (([(-1000000000 : Int)] ++ ns.filter innB).map V.int)) = H4 at s3 e3
        refine ⟨_, _, rfl, rfl, ⟨by decide, by decide, by decide⟩, by show 1 ≤ sizeLine; decide, fun a2 na2 => ?_⟩
        have s4 := Same.up (o := .lst [V.int ((10 : Int) ^ ((9 : Int).toNat))]) na2
        have e4 : upd H4 a2 (.lst [V.int ((10 : Int) ^ ((9 : Int).toNat))]) a2 = some (.lst ([(1000000000 : Int)].map V.int)) := by rw [upd_same, e9]; rfl
        have e34 := s4 _ _ e3
        refine ⟨p1, a2, _, _, rfl, rfl, e34, e4, by rw [List.length_map, List.length_append, sizeLine_eq]; show 1 + _ + 1 ≤ _; omega, fun d nd => ?_⟩
        rw [← List.map_append]
        exact ⟨d, _, rfl, s1.trans (s2.trans (ac.s.trans (s3.trans (s4.trans (Same.up nd))))), upd_same, near_ok hmem (by omega) hbd⟩
    rintro σ' H1 ⟨d, nr, rfl, s1, ed, hnr⟩
    refine ⟨fun σ' H' => ∃ (q1 : Addr) (xs : List V), σ' = [some (.ref r), some (.int w1), some (.ref p), some (.ref d), some (.ref q1), none, none, none, none, none, none] ∧ Same H1 H' ∧ H' q1 = some (.lst xs) ∧ RowsAt H' xs (rwL nr ks P w1 0), ?_, ?_⟩
    · refine ⟨by show 0 ≤ sizeLine; decide, fun e ne => ⟨by show 1 ≤ sizeLine; decide, fun D nD => ⟨D, _, rfl, (Same.up ne).trans (Same.up nD), upd_same, .cons ⟨e, rfl, (Same.up nD) _ _ upd_same⟩ .nil⟩⟩⟩
    rintro σ' H2 ⟨q0, xs0, rfl, s2, e2, r2⟩
    refine ⟨fun σ' H' => ∃ (q1 : Addr) (xs : List V) (x5 x6 x7 x8 x9 : Option V), σ' = [some (.ref r), some (.int w1), some (.ref p), some (.ref d), some (.ref q1), x5, x6, x7, x8, x9, none] ∧ Same H2 H' ∧ H' q1 = some (.lst xs) ∧ RowsAt H' xs (rwL nr ks P w1 ks.length), ?_, ?_⟩
    · refine ⟨_, rfl, r, _, rfl, .inr (SqT.of (s2 _ _ (s1 _ _ er))), _, rfl, by rw [List.length_map]; omega, by rw [List.length_map]; omega, ?_⟩
      rw [Int.toNat_natCast, List.length_map]
      refine for_it (walk_range (lo := 0) (n := ks.length)) (fun i σ' H' => ∃ (q1 : Addr) (xs : List V) (x5 x6 x7 x8 x9 : Option V), σ' = [some (.ref r), some (.int w1), some (.ref p), some (.ref d), some (.ref q1), x5, x6, x7, x8, x9, none] ∧ Same H2 H' ∧ H' q1 = some (.lst xs) ∧ RowsAt H' xs (rwL nr ks P w1 i)) ⟨q0, xs0, none, none, none, none, none, rfl, Same.refl _, e2, r2⟩ (fun _ _ _ _ _ => trivial) ?_ (fun _ _ z => z)
      rintro i y σ' Ho H3 hi ⟨q1, xs, x5, x6, x7, x8, x9, rfl, s3, e3, r3⟩ ⟨rfl, ey⟩
      obtain rfl : y = V.int (i : Nat) := by
        rw [ey]
        show V.int (0 + (i : Int)) = _
        rw [Int.zero_add]
      have hi : i < ks.length := hi
      have hsm := rw_small (ks := ks) (P := P) (w := w1) hnr.len i
      have hsm1 := rw_small (ks := ks) (P := P) (w := w1) hnr.len (i + 1)
      have hp4 : (14 : Nat) ^ i ≤ 14 ^ 3 := Nat.pow_le_pow_right (by decide) (by omega)
      have hp66 : (14 : Nat) ^ 3 = 2744 := by decide
      have h12' := (s1.trans s2).trans s3
      have er3 := h12' _ _ er
      have ep3 := h12' _ _ ep
      have ed3 := s3 _ _ (s2 _ _ ed)
      refine ⟨by show 0 ≤ sizeLine; decide, fun D nD => ?_⟩
      have sD := Same.up (o := .lst []) nD
      have eD : upd H3 D (.lst []) D = some (.lst []) := upd_same
      generalize upd H3 D (.lst []) = H4 at sD eD
      have e4 := sD _ _ e3
      have r4 := RowsAt.same r3 sD
      refine ⟨fun σ' H' => ∃ (q2 : Addr) (ys : List V) (x7 x8 x9 : Option V), σ' = [some (.ref r), some (.int w1), some (.ref p), some (.ref d), some (.ref q1), some (.int i), some (.ref q2), x7, x8, x9, none] ∧ Same H4 H' ∧ H' q2 = some (.lst ys) ∧ RowsAt H' ys ((rwL nr ks P w1 i).flatMap (outL nr ks P w1 i)), ?_, ?_⟩
      · have er4 := sD _ _ er3
        have ep4 := sD _ _ ep3
        have ed4 := sD _ _ ed3
        have hxl : xs.length = (rwL nr ks P w1 i).length := Paired.length r3
        have htot : ((rwL nr ks P w1 i).flatMap (outL nr ks P w1 i)).length ≤ 14 ^ (i + 1) := hsm1
        have hp67 : (14 : Nat) ^ (i + 1) ≤ 14 ^ 4 := Nat.pow_le_pow_right (by decide) (by omega)
        have hp68 : (14 : Nat) ^ 4 = 38416 := by decide
        refine ⟨_, rfl, q1, rfl, ⟨_, SqL.of e4⟩, ?_⟩
        refine for_it (walk_list (xs := xs)) (fun m σ' H' => ∃ (q2 : Addr) (ys : List V) (x7 x8 x9 : Option V), σ' = [some (.ref r), some (.int w1), some (.ref p), some (.ref d), some (.ref q1), some (.int i), some (.ref q2), x7, x8, x9, none] ∧ Same H4 H' ∧ H' q2 = some (.lst ys) ∧ RowsAt H' ys (((rwL nr ks P w1 i).take m).flatMap (outL nr ks P w1 i))) ⟨D, [], x7, x8, x9, rfl, Same.refl _, eD, .nil⟩ (fun m σ' H' _ ⟨_, _, _, _, _, _, s, _⟩ => SqL.of (s _ _ e4)) ?_ (fun σ' H' h => by
          rw [hxl, List.take_length] at h
          exact h)
        rintro m y σ' Hp H5 hm ⟨q2, ys, z7, z8, z9, rfl, s5, e5, r5⟩ ⟨rfl, hy⟩
        obtain ⟨hm2, t, rfl, et⟩ := RowsAt.get (RowsAt.same r4 s5) hy
        obtain ⟨g1, g2, g3⟩ := rw_in i _ (List.getElem_mem hm2)
        rw [List.take_succ_eq_append_getElem hm2, List.flatMap_append, List.flatMap_singleton]
        have hb1 : (((rwL nr ks P w1 i).take m).flatMap (outL nr ks P w1 i)).length ≤ 38416 := by
          have z : ((rwL nr ks P w1 i).flatMap (outL nr ks P w1 i)).length ≤ 38416 := by omega
          conv at z => lhs; rw [← List.take_append_drop m (rwL nr ks P w1 i), List.flatMap_append, List.length_append]
          omega
        generalize (rwL nr ks P w1 i)[m] = s0 at et g1 g2 g3
        have hd := Nat.div_le_self (i - 1) w1
        refine ⟨fun σ' H' => σ' = [some (.ref r), some (.int w1), some (.ref p), some (.ref d), some (.ref q1), some (.int i), some (.ref q2), some (.ref t), some (.int (lstA w1 s0 i)), z9, none] ∧ H' = H5, ?_, ?_⟩
        · refine ⟨_, rfl, _, _, rfl, rfl, _, rfl, ?_⟩
          by_cases h0 : 0 < i
          · have e : ((i : Int) - 1) / (w1 : Int) = (((i - 1) / w1 : Nat) : Int) := by
              rw [show (i : Int) - 1 = ((i - 1 : Nat) : Int) by omega]
              exact (Int.natCast_ediv (i - 1) w1).symm
            have hat : atI (s0.map V.int) (((i : Int) - 1) / (w1 : Int)) = some (V.int (lstA w1 s0 i)) := by
              rw [e]
              unfold lstA
              rw [if_pos h0]
              exact key_atI (by omega)
            exact ite_b (c := true) (decide_eq_true (show (0 : Int) < (i : Int) by omega)) (iteT ⟨_, rfl, _, rfl, _, _, rfl, rfl, _, rfl, _, _, rfl, rfl, ⟨by omega, by omega⟩, t, _, _, _, rfl, rfl, SqT.of et, hat, rfl, rfl⟩)
          · refine ite_b (c := false) (decide_eq_false (show ¬ (0 : Int) < (i : Int) by omega)) (iteF ⟨_, _, rfl, rfl, ⟨by decide, by decide, by decide⟩, _, rfl, ?_, rfl⟩)
            show [_, _, _, _, _, _, _, _, some (V.int (-((10 : Int) ^ ((9 : Int).toNat)))), _, _] = _
            rw [e9]
            unfold lstA
            rw [if_neg h0]
        rintro σ' Hx ⟨rfl, ex⟩
        obtain rfl := ex.symm
        have ep5 := s5 _ _ ep4
        have er5 := s5 _ _ er4
        have ed5 := s5 _ _ ed4
        refine ⟨fun σ' H' => ∃ b : Addr, σ' = [some (.ref r), some (.int w1), some (.ref p), some (.ref d), some (.ref q1), some (.int i), some (.ref q2), some (.ref t), some (.int (lstA w1 s0 i)), some (.ref b), none] ∧ Same H5 H' ∧ H' b = some (.lst ((ableL nr ks P i).map V.int)), ?_, ?_⟩
        · refine ⟨_, rfl, _, rfl, p, _, rfl, .inr (SqT.of ep5), rfl, nv_flat _, _, rfl, ?_⟩
          rw [if_neg Bool.false_ne_true, inV_nv]
          unfold ableL
          by_cases hin : i ∈ P
          · rw [decide_eq_true hin, if_pos hin]
            exact iteT ⟨_, rfl, _, rfl, r, _, _, _, rfl, rfl, SqT.of er5, key_atI hi, by show 1 ≤ sizeLine; decide, fun b nb => ⟨b, rfl, Same.up nb, upd_same⟩⟩
          · rw [decide_eq_false hin, if_neg hin]
            exact iteF ⟨_, rfl, d, rfl, Same.refl _, ed5⟩
        rintro σ' H6 ⟨b, rfl, s6, eb⟩
        have hal : (ableL nr ks P i).length ≤ 14 := by
          unfold ableL
          split
          · show 1 ≤ 14
            decide
          · exact hnr.len
        rw [show outL nr ks P w1 i s0 = ((ableL nr ks P i).filter fun key => decide (lstA w1 s0 i ≤ key)).map (fun key => s0 ++ [key]) from rfl]
        generalize ableL nr ks P i = al at eb hal
        refine ⟨_, rfl, _, rfl, b, rfl, ⟨_, SqL.of eb⟩, fun D2 nD2 => ?_⟩
        have et6 := s6 _ _ et
        refine lc_it (walk_list (xs := al.map V.int)) (fun j H' => AccR H6 D2 (((al.take j).filter fun key => decide (lstA w1 s0 i ≤ key)).map fun key => s0 ++ [key]) H') (AccR.start nD2) (fun j H' _ ac => SqL.of (ac.s _ _ eb)) ?_ ?_
        · rintro j y Hq H7 hj ac ⟨rfl, hy7⟩
          obtain ⟨hj2, rfl⟩ := ints_at hy7
          have hfl := List.length_filter_le (fun key => decide (lstA w1 s0 i ≤ key)) (al.take j)
          rw [List.length_take] at hfl
          rw [List.take_succ_eq_append_getElem hj2, List.filter_append, List.map_append]
          refine ⟨rfl, _, rfl, _, rfl, _, _, rfl, rfl, _, rfl, ?_⟩
          by_cases hk : lstA w1 s0 i ≤ al[j]
          · refine ite_b (c := true) (decide_eq_true hk) (iteT ⟨_, rfl, _, rfl, by show 1 ≤ sizeLine; decide, fun u nu => ?_⟩)
            have s8 := Same.up (o := .tup [V.int al[j]]) nu
            have eu : upd H7 u (.tup [V.int al[j]]) u = some (.tup ([al[j]].map V.int)) := upd_same
            generalize upd H7 u (.tup [V.int al[j]]) = H8 at s8 eu
            refine catInt (s8 _ _ (ac.s _ _ et6)) eu (by show _ + 1 ≤ 1000; omega) fun H9 c s9 ec => ?_
            rw [List.filter_cons_of_pos (p := fun key => decide (lstA w1 s0 i ≤ key)) (decide_eq_true hk), List.filter_nil]
            exact (ac.same (s8.trans s9)).push (x := .ref c) (l := s0 ++ [al[j]]) ⟨c, rfl, ec⟩ (by rw [List.length_map, sizeLine_eq]; omega)
          · refine ite_b (c := false) (decide_eq_false hk) (iteF ?_)
            rw [List.filter_cons_of_neg (p := fun key => decide (lstA w1 s0 i ≤ key)) (by rw [decide_eq_true_eq]; exact hk), List.filter_nil, List.map_nil, List.append_nil]
            exact ac
        · intro H7 ac
          rw [List.length_map, List.take_length] at ac
          obtain ⟨zs, ez, rz⟩ := ac.a
          have e7 := ac.s _ _ (s6 _ _ e5)
          have r7 := RowsAt.same r5 (s6.trans ac.s)
          have hzl : zs.length ≤ 14 := by
            have z := Paired.length rz
            rw [z, List.length_map]
            exact Nat.le_trans (List.length_filter_le _ _) hal
          refine ⟨q2, D2, ys, zs, rfl, rfl, e7, ez, by rw [Paired.length r5, sizeLine_eq]; omega, fun v nv' => ?_⟩
          have s10 := Same.up (o := .lst (ys ++ zs)) nv'
          exact ⟨v, _, _, _, _, rfl, s5.trans (s6.trans (ac.s.trans s10)), upd_same, RowsAt.app (RowsAt.same r7 s10) (RowsAt.same rz s10)⟩
      rintro σ' H5 ⟨q2, ys, x7', x8', x9', rfl, s5, e5, r5⟩
      exact ⟨_, rfl, q2, ys, _, _, _, _, _, rfl, s3.trans (sD.trans s5), e5, r5⟩
    rintro σ' H3 ⟨q1, xs, x5, x6, x7, x8, x9, rfl, s3, e3, r3⟩
    exact ⟨_, rfl, q _ q1 xs nr (s1.trans (s2.trans s3)) e3 hnr r3⟩
theorem b_lrw (T : Tx K mg A) : L2.Binds K A.d__law_rows ["row", "wide", "places"] [] := T.F__law_rows.binds fun _ _ _ _ _ _ us hl => match us, hl with | [_, _, _], _ => rfl

end
end Tw

set_option Elab.async false
set_option linter.all false
set_option maxRecDepth 100000
set_option maxHeartbeats 2000000
namespace Tw
open PySem PySem.Spec PyProof.Rows L2
section
variable {P : Program} {w : World} {K : PySem.W.Frag} {mg : Str → Option Value} {base : Heap} {A : Ad}
open LamX (ExtN Tabs TabS)
theorem at_last {xs : List V} (h : 0 < xs.length) : atI xs (-1) = some xs[xs.length - 1] := by
  unfold atI ixN
  rw [if_neg (by omega), if_pos (by omega), show ((-1 : Int) + (xs.length : Nat)).toNat = xs.length - 1 by omega]
  exact List.getElem?_eq_getElem (by omega)
theorem neInt {i j : Int} (h : i = j) : (!decide (V.int i = V.int j)) = false := by rw [h, decide_eq_true rfl]; rfl
theorem rowD_dp {H : Hp} {v : V} {r : List Int} (h : RowAt H v r) : Dp K H v (rowD r) := by
  obtain ⟨t, rfl, e⟩ := h
  exact ints_tup K e
theorem rowsD_dp {H : Hp} : ∀ {xs : List V} {ls : List (List Int)}, RowsAt H xs ls → DpAll K H xs (ls.map rowD)
  | _, _, .nil => .nil
  | _, _, .cons a b => .cons (rowD_dp a) (rowsD_dp b)
theorem rowsD_lay : ∀ ls : List (List Int), PyData.canLayAll0 (ls.map rowD) = true
  | [] => rfl
  | r :: ls => by
    have h := SeqAt.canLay_of_shaped (ints_shT r)
    rw [List.map_cons, PyData.canLayAll0, rowsD_lay ls, Bool.and_true]
    exact h
theorem rowsD_deep : ∀ ls : List (List Int), PyData.depthAll (ls.map rowD) ≤ 3
  | [] => by simp [PyData.depthAll]
  | r :: ls => by
    have := rowsD_deep ls
    have hp : PyData.depth (rowD r) ≤ 3 := by simp [rowD, PyData.depth, PySem.W.depth_ints]
    simp only [List.map_cons, PyData.depthAll]
    omega
theorem rowsD_shaped (ls : List (List Int)) : SeqAt.shaped (.list (ls.map rowD)) = true := by
  have := rowsD_deep ls
  unfold SeqAt.shaped
  rw [Bool.and_eq_true]
  refine ⟨?_, decide_eq_true ?_⟩
  · simp only [PyData.canLay0]
    exact rowsD_lay ls
  · simp only [PyData.depth]
    omega
theorem rowsD_all : ∀ ls ms : List (List Int), PyData.eqvAll (ls.map rowD) (ms.map rowD) = decide (ls = ms)
  | [], [] => by simp [PyData.eqvAll]
  | [], q :: qs => by simp [PyData.eqvAll]
  | p :: ps, [] => by simp [PyData.eqvAll]
  | p :: ps, q :: qs => by
    simp only [List.map_cons, PyData.eqvAll, rowsD_all ps qs]
    rw [rowD_eqv]
    by_cases h1 : p = q
    · by_cases h2 : ps = qs <;> simp [h1, h2]
    · simp [h1]
theorem rowsL_eqv (ls ms : List (List Int)) : PyData.eqv (.list (ls.map rowD)) (.list (ms.map rowD)) = decide (ls = ms) := by
  rw [← rowsD_all]
  simp [PyData.eqv]
end
end Tw

set_option Elab.async false
set_option linter.all false
set_option maxRecDepth 100000
set_option maxHeartbeats 2000000
namespace Tw
open PySem PySem.Spec PyProof.Rows L2
section
variable {P : Program} {w : World} {K : PySem.W.Frag} {mg : Str → Option Value} {base : Heap} {A : Ad}
open LamX (ExtN Tabs TabS)
/-! _law_right: RowsAt RowsAt.get AccR AccR.start AccR.push rowD rowsD_dp rowsL_eqv rowsD_shaped ints_dp shaped_ints neInt at_last -/
theorem sl_srt {K : PySem.W.Frag} {H : Hp} {r : Addr} {ks : List Int} {c : Nat} {Q : VK} (h : SqT K H r (ks.map V.int)) (q : ∀ (H' : Hp) (p : Addr), Same H H' → H' p = some (.lst (((srtI ks).take c).map V.int)) → Q (.ref p) H') : rSortedTu K [.ref r] H (fun x H1 => rSlL K x none (some (c : Int)) H1 Q) :=
  ⟨r, ks, rfl, h, fun z p1 hz1 hz2 n1 => by
    obtain rfl := srtI_one hz1 hz2
    refine ⟨p1, _, rfl, SqL.of upd_same, fun u nu => ?_⟩
    rw [cut_to, ← List.map_take]
    exact q _ u ((Same.up n1).trans (Same.up nu)) upd_same⟩
theorem HpC.same' {H H' : Hp} {r c w : Nat} {ks : List Int} (h : HpC H r c w ks) (s : Same H H') : HpC H' r c w ks := ⟨h.hw, h.row.same s, h.flt, h.hc⟩
theorem rows_empty {K : PySem.W.Frag} {H : Hp} {D u : Addr} {xs : List V} {ls : List (List Int)} {Q : VK} (e : H D = some (.lst xs)) (r : RowsAt H xs ls) (eu : H u = some (.lst [])) (q : Q (.bl (decide (ls = []))) H) : rEqD K (.ref D) (.ref u) H Q := by
  refine ⟨.list (ls.map rowD), .list [], .lst (SqL.of e) (rowsD_dp r), .lst (SqL.of eu) .nil, rowsD_shaped _, rfl, ?_⟩
  rw [show PyData.eqv (.list (ls.map rowD)) (.list []) = decide (ls = []) from rowsL_eqv ls []]
  exact q
theorem bEq {b : Bool} {p q : Prop} [Decidable q] (h : b = true ↔ p) (g : q ↔ p) : b = decide q := by
  rw [Bool.eq_iff_iff, decide_eq_true_eq, h, g]
theorem fdG_no (v0 : V) : (fdG v0).lookup ("shows" : Str) = none := by
  unfold fdG
  rw [lookup_putF, if_neg (by decide +kernel)]
  rfl
theorem fdU_no (v0 : V) : (fdU v0).lookup ("shows" : Str) = none := by
  unfold fdU
  rw [lookup_putF, if_neg (by decide +kernel)]
  rfl
def KeyL (H : Hp) (y : V) : Prop := ∃ (t : Addr) (zs : List Int), y = .ref t ∧ H t = some (.lst (zs.map V.int)) ∧ zs.length ≤ 20
def prB (ks : List Int) (c : Nat) (s : List Int) : Bool := !decide ((srtI s).take c = (srtI ks).take c)
def spLrt : Sp := fun vs H Q _ => ∃ (r w c p : Nat) (ks : List Int) (P : List Nat), vs = [.ref r, .int w, .int c, .ref p] ∧ HpC H r c w ks ∧ H r = some (.tup (ks.map V.int)) ∧ ks.length ≤ 4 ∧ H p = some (.tup (nv P)) ∧ PSet2 ks.length P ∧ ∀ H', Same H H' → Q (.bl true) H'
theorem ok_lrt (T : Tx K mg A) : FnOk P w K mg base CX0 13 A.f__law_right A.d__law_right ["row", "wide", "count", "places"] spLrt := by
  obtain ⟨mjp, kjp⟩ := kb_jp T
  obtain ⟨mds, kds⟩ := kb_ds T
  obtain ⟨mgs, kGet⟩ := kb_gsh T
  obtain ⟨mus, kUns⟩ := kb_ush T
  refine T.F__law_right.ok sc__law_right (fun vs H Q E h => ?_) (fun cdv B outer s H vs Q E hr h => ?_)
  · obtain ⟨r, w, c, p, ks, P, rfl, _⟩ := h
    rfl
  · obtain ⟨r, w1, c, p, ks, P, rfl, hp, er, h4, ep, hP, q⟩ := h
    have nd := sc__law_right.nd
    have hu : (B.deeper (envOfC "_law_right" (defScope s__law_right) s.heap.objs.size A.f__law_right cdv)).units + 64 < cLine := hr.units
    have ag := agr_self (P := P) hp
    refine ⟨_, PSs.nox (C8.pss_cut (ps_setLc (i := 5) (own := [("late", 4)]) (g := gName 4) rfl nd rfl rfl (sw_true rfl rfl rfl (by decide +kernel)) (pi_list (pe_call (ok_lrw T) (hr.mono (by decide)) (by rfl) T.m__law_rows T.F__law_rows.kp (b_lrw T) .nil pass0 (pa_cons (pv 0) (pa_cons (pv 1) (pa_cons (pv 3) pa_nil))))) (blkOk_by (own := [("late", 4)]) (N := ["row", "wide", "count", "places", "late", "rows", "found", "keys", "due", "some"]) (sc := defScope s__law_right) (by decide +kernel)) (fun _ _ _ _ _ => pg_name (i := 4) nd rfl (Or.inl rfl)) (fun _ _ _ _ _ => pts_one (pt_cmpR (r := L2.rNeD K) (op_neD hu) (pe_slice (r := rSlL K) sl_list (pe_callB (r := rSortedTu K) cr_sortedTu (by rfl) T.g_sorted (by decide +kernel) (pa_cons (pv 4) pa_nil)) po_none (po_some (pv 2))) (pe_slice (r := rSlL K) sl_list (pe_callB (r := rSortedTu K) cr_sortedTu (by rfl) T.g_sorted (by decide +kernel) (pa_cons (pv 0) pa_nil)) po_none (po_some (pv 2))) (nomark _))) (fun _ _ _ _ _ => (pv 4)))
      (C8.pss_cut (ps_if (pt_cmpR op_ne (pe_callN (ok_ds T) (hr.mono (by decide)) (by rfl) T.m_does_settle T.F_does_settle.kp kds pass0 (pa_cons (pv 0) (pa_cons (pv 2) (pa_cons (pv 3) pa_nil))) (pk_cons (pv 1) pk_nil)) (pe_cmpR (op_eqD hu) (pv 5) (pe_lst pa_nil) (nomark _)) (nomark _)) (pss_one (ps_ret pe_bl)) pss_nil)
      (C8.pss_cut (ps_set (i := 6) nd rfl (Or.inl rfl) (pe_callN (ok_jp T) (hr.mono (by decide)) (by rfl) T.m_judge_places T.F_judge_places.kp kjp pass0 (pa_cons (pv 0) (pa_cons (pv 2) (pa_cons (pv 3) pa_nil))) (pk_cons (pv 1) pk_nil)))
      (C8.pss_cut (ps_if (PW.pt (pw_or (pt_cmpR op_ne (pe_callB (r := rIsi K) call_isi (by rfl) T.g_isinstance (by decide +kernel) (pa_cons (pv 6) (pa_cons (pe_glob (v := .ref A.CG) (by rfl) T.mCG (relR _)) pa_nil))) (pe_cmpR (op_eqD hu) (pv 5) (pe_lst pa_nil) (nomark _)) (nomark _)) (pw_or1 (pt_cmpR op_eq (pe_callB (r := rIsi K) call_isi (by rfl) T.g_isinstance (by decide +kernel) (pa_cons (pv 6) (pa_cons (pe_glob (v := .ref A.CU) (by rfl) T.mCU (relR _)) pa_nil))) (pe_cmpR (op_eqD hu) (pv 5) (pe_lst pa_nil) (nomark _)) (nomark _))))) (pss_one (ps_ret pe_bl)) pss_nil)
      (C8.pss_cut (ps_if (pt_cmpR op_notBl (pe_two (pe_methN (pv 6) T.cTG T.M_g_shows (ok_gsh T) (hr.mono (by decide)) kGet pass0 (pa_cons (pv 0) (pa_cons (pv 2) (pa_cons (pv 3) pa_nil))) (pk_cons (pv 1) pk_nil)) (pe_methN (pv 6) T.cTU T.M_u_shows (ok_ush T) (hr.mono (by decide)) kUns pass0 (pa_cons (pv 0) (pa_cons (pv 2) (pa_cons (pv 3) pa_nil))) (pk_cons (pv 1) pk_nil))) pe_bl (nomark _)) (pss_one (ps_ret pe_bl)) pss_nil)
      (C8.pss_cut (ps_if (PW.pt (pw_and (pt_cmpR (op_eqD hu) (pv 5) (pe_lst pa_nil) (nomark _)) (pw_and1 (pt_cmpR (r := L2.rNeD K) (op_neD hu) (pe_fld (pv 6) rfl) (pe_slice (r := rSlL K) sl_list (pe_callB (r := rSortedTu K) cr_sortedTu (by rfl) T.g_sorted (by decide +kernel) (pa_cons (pv 0) pa_nil)) po_none (po_some (pv 2))) (nomark _))))) (pss_one (ps_ret pe_bl)) pss_nil)
      (C8.pss_cut (ps_for PassesOwn.never rfl (pi_tup (pe_tup (pa_cons (pe_slice (r := rSlL K) sl_list (pe_callB (r := rSortedTu K) cr_sortedTu (by rfl) T.g_sorted (by decide +kernel) (pa_cons (pv 0) pa_nil)) po_none (po_some (pv 2))) (pa_cons (pe_slice (r := rSlL K) sl_list (pe_callB (r := rSortedTu K) cr_sortedTu (by rfl) T.g_sorted (by decide +kernel) (pa_cons (pv 0) pa_nil)) po_none (po_some (pe_op op_add (pv 2) pe_int))) (pa_cons (pe_op op_cat (pe_slice (r := rSlL K) sl_list (pe_callB (r := rSortedTu K) cr_sortedTu (by rfl) T.g_sorted (by decide +kernel) (pa_cons (pv 0) pa_nil)) po_none (po_some (pv 2))) (pe_lst (pa_cons (pe_op op_pow pe_int pe_int) pa_nil))) (pa_cons (pe_lst pa_nil) pa_nil)))))) (pg_name (i := 7) nd rfl (Or.inl rfl)) (C8.pss_cut (ps_set (i := 8) nd rfl (Or.inl rfl) (pe_and (pe_cmpR (op_eqD hu) (pv 5) (pe_lst pa_nil) (nomark _)) (pe_one (pe_cmpR (op_eqD hu) (pv 7) (pe_slice (r := rSlL K) sl_list (pe_callB (r := rSortedTu K) cr_sortedTu (by rfl) T.g_sorted (by decide +kernel) (pa_cons (pv 0) pa_nil)) po_none (po_some (pv 2))) (nomark _)))))
      (pss_one (ps_if (pt_cmpR op_ne (pe_methN (pe_make T.mkCG (ok_iG T) (hr.mono (by decide)) (by rfl) T.mCG (b_iG T) .nil pass0 (pa_cons (pv 7) pa_nil)) T.cTG T.M_g_shows (ok_gsh T) (hr.mono (by decide)) kGet pass0 (pa_cons (pv 0) (pa_cons (pv 2) (pa_cons (pv 3) pa_nil))) (pk_cons (pv 1) pk_nil)) (pv 8) (nomark _)) (pss_one (ps_ret pe_bl)) pss_nil))))
      (C8.pss_cut (ps_for PassesOwn.never rfl (pi_list (pe_call (ok_lch T) (hr.mono (by decide)) (by rfl) T.m__law_changed T.F__law_changed.kp (b_lch T) .nil pass0 (pa_cons (pv 0) (pa_cons (pe_ifExp (pt_cmpR (op_eqD hu) (pv 5) (pe_lst pa_nil) (nomark _)) (pv 0) (pe_ix (r := rIxL K) ix_list (pv 5) (pe_un un_neg pe_int) (fun _ _ => rfl))) (pa_cons (pv 3) pa_nil))))) (pg_name (i := 4) nd rfl (Or.inl rfl)) (C8.pss_cut (ps_set (i := 8) nd rfl (Or.inl rfl) (pe_call (ok_ldu T) (hr.mono (by decide)) (by rfl) T.m__law_due T.F__law_due.kp (b_ldu T) .nil pass0 (pa_cons (pv 4) (pa_cons (pv 0) (pa_cons (pv 1) (pa_cons (pv 2) (pa_cons (pv 3) pa_nil)))))))
      (pss_one (ps_for PassesOwn.never rfl (pi_tup (pe_tup (pa_cons (pv 4) (pa_cons (pe_callTy (r := rListK K) call_listK (by rfl) T.g_list (by decide +kernel) (pa_cons (pv 4) pa_nil)) pa_nil)))) (pg_name (i := 9) nd rfl (Or.inl rfl)) (pss_one (ps_if (pt_cmpR op_ne (pe_methN (pe_make T.mkCU (ok_iU T) (hr.mono (by decide)) (by rfl) T.mCU (b_iU T) .nil pass0 (pa_cons (pv 9) pa_nil)) T.cTU T.M_u_shows (ok_ush T) (hr.mono (by decide)) kUns pass0 (pa_cons (pv 0) (pa_cons (pv 2) (pa_cons (pv 3) pa_nil))) (pk_cons (pv 1) pk_nil)) (pv 8) (nomark _)) (pss_one (ps_ret pe_bl)) pss_nil))))))
      (pss_one (ps_ret pe_bl)))))))))), ?_⟩
    refine ⟨fun σ' H' => ∃ (D : Addr) (ls : List (List Int)) (xs : List V), σ' = [some (.ref r), some (.int w1), some (.int c), some (.ref p), none, some (.ref D), none, none, none, none] ∧ Same H H' ∧ H' D = some (.lst xs) ∧ RowsAt H' xs ls ∧ (ls = [] ↔ Settles ks.length w1 P ks c) ∧ ∀ l ∈ ls, l.length = ks.length, ?_, ?_⟩
    · refine ⟨_, rfl, _, rfl, _, rfl, r, w1, p, ks, P, rfl, hp.hw, er, h4, hp.row.2.2, ep, fun H1 q1 xs nr s1 e1 hnr r1 => ?_⟩
      have hsm := rw_small (ks := ks) (P := P) (w := w1) hnr.len ks.length
      have hp4 : (14 : Nat) ^ ks.length ≤ 14 ^ 4 := Nat.pow_le_pow_right (by decide) (by omega)
      have hp5 : (14 : Nat) ^ 4 = 38416 := by decide
      have hxl : xs.length = (rwL nr ks P w1 ks.length).length := Paired.length r1
      refine ⟨q1, rfl, ⟨_, SqL.of e1⟩, fun D nD => ?_⟩
      refine lc_it (walk_list (xs := xs)) (fun i H' => AccR H1 D (((rwL nr ks P w1 ks.length).take i).filter (prB ks c)) H') (AccR.start nD) (fun i H' _ ac => SqL.of (ac.s _ _ e1)) ?_ ?_
      · rintro i y Ho H2 hi ac ⟨rfl, hy⟩
        obtain ⟨hi2, t, rfl, et⟩ := RowsAt.get (RowsAt.same r1 ac.s) hy
        have hfl := List.length_filter_le (prB ks c) ((rwL nr ks P w1 ks.length).take i)
        rw [List.length_take] at hfl
        rw [List.take_succ_eq_append_getElem hi2, List.filter_append]
        generalize (rwL nr ks P w1 ks.length)[i] = s0 at et
        have er2 := ac.s _ _ (s1 _ _ er)
        have et2 := et
        refine ⟨rfl, _, rfl, t, s0, rfl, SqT.of et2, fun z1 p1 hz1 hz2 n1 => ?_⟩
        obtain rfl := srtI_one hz1 hz2
        have a1 := Same.up (o := .lst ((srtI s0).map V.int)) n1
        have f1 : upd H2 p1 (.lst ((srtI s0).map V.int)) p1 = some (.lst ((srtI s0).map V.int)) := upd_same
        generalize upd H2 p1 (.lst ((srtI s0).map V.int)) = H3 at a1 f1
        unfold tNoPart
        refine ⟨_, rfl, _, rfl, p1, _, rfl, SqL.of f1, fun u1 m1 => ?_⟩
        rw [cut_to, ← List.map_take]
        have a2 := a1.trans (Same.up (o := .lst (((srtI s0).take c).map V.int)) m1)
        have g1 : upd H3 u1 (.lst (((srtI s0).take c).map V.int)) u1 = some (.lst (((srtI s0).take c).map V.int)) := upd_same
        generalize upd H3 u1 (.lst (((srtI s0).take c).map V.int)) = H4 at a2 g1
        refine ⟨_, rfl, r, ks, rfl, SqT.of (a2 _ _ er2), fun z2 p2 hz3 hz4 n2 => ?_⟩
        obtain rfl := srtI_one hz3 hz4
        have a3 := a2.trans (Same.up (o := .lst ((srtI ks).map V.int)) n2)
        have b3 := Same.up (o := .lst ((srtI ks).map V.int)) n2
        have f2 : upd H4 p2 (.lst ((srtI ks).map V.int)) p2 = some (.lst ((srtI ks).map V.int)) := upd_same
        generalize upd H4 p2 (.lst ((srtI ks).map V.int)) = H5 at a3 b3 f2
        refine ⟨_, rfl, _, rfl, p2, _, rfl, SqL.of f2, fun u2 m2 => ?_⟩
        rw [cut_to, ← List.map_take]
        have a4 := a3.trans (Same.up (o := .lst (((srtI ks).take c).map V.int)) m2)
        have b4 := b3.trans (Same.up (o := .lst (((srtI ks).take c).map V.int)) m2)
        have g2 : upd H5 u2 (.lst (((srtI ks).take c).map V.int)) u2 = some (.lst (((srtI ks).take c).map V.int)) := upd_same
        generalize upd H5 u2 (.lst (((srtI ks).take c).map V.int)) = H6 at a4 b4 g2
        refine ⟨_, _, .lst (SqL.of (b4 _ _ g1)) (ints_dp _ _ _), .lst (SqL.of g2) (ints_dp _ _ _), shaped_ints _, shaped_ints _, _, rfl, ?_⟩
        rw [intsL_eqv]
        by_cases hc : (srtI s0).take c = (srtI ks).take c
        · rw [decide_eq_true hc]
          refine iteF ?_
          rw [List.filter_cons_of_neg (p := prB ks c) (by unfold prB; rw [decide_eq_true hc]; exact Bool.false_ne_true), List.filter_nil, List.append_nil]
          exact ac.same a4
        · rw [decide_eq_false hc]
          refine iteT ⟨_, rfl, ?_⟩
          rw [List.filter_cons_of_pos (p := prB ks c) (by unfold prB; rw [decide_eq_false hc]; rfl), List.filter_nil]
          exact (ac.same a4).push (x := .ref t) (l := s0) ⟨t, rfl, a4 _ _ et2⟩ (by rw [sizeLine_eq]; omega)
      · intro H2 ac
        rw [hxl, List.take_length] at ac
        obtain ⟨zs, ez, rz⟩ := ac.a
        refine ⟨D, _, zs, rfl, s1.trans ac.s, ez, rz, ?_, fun l hl => (rw_in _ _ (List.mem_filter.mp hl).1).1⟩
        rw [settles_iff hp.hw.1 hnr ag hP.up, List.filter_eq_nil_iff]
        refine forall_congr' fun s0 => forall_congr' fun _ => ?_
        unfold prB
        simp
    rintro σ' H1 ⟨D, ls, xs, rfl, s1, eD, rD, hS, hlen⟩
    refine ⟨fun σ' H' => σ' = [some (.ref r), some (.int w1), some (.int c), some (.ref p), none, some (.ref D), none, none, none, none] ∧ Same H1 H', ?_, ?_⟩
    · refine ⟨_, rfl, _, rfl, _, rfl, _, rfl, rfl, rfl, r, c, p, w1, ks, P, rfl, hp.same' s1, s1 _ _ ep, hP, fun b H2 hb s2 => ?_⟩
      refine ⟨_, rfl, by show 0 ≤ sizeLine; decide, fun u nu => ?_⟩
      have s3 := s2.trans (Same.up (o := .lst []) nu)
      refine rows_empty (s3 _ _ eD) (RowsAt.same rD s3) upd_same ⟨rfl, _, rfl, ?_⟩
      rw [bEq hb hS]
      exact ite_b (c := false) (by rw [decide_eq_true rfl]; rfl) (iteF ⟨rfl, s3⟩)
    rintro σ' H2 ⟨rfl, s2⟩
    have s12 := s1.trans s2
    have eD2 := s2 _ _ eD
    have rD2 := RowsAt.same rD s2
    refine ⟨fun σ' H' => ∃ f : Addr, σ' = [some (.ref r), some (.int w1), some (.int c), some (.ref p), none, some (.ref D), some (.ref f), none, none, none] ∧ Same H2 H' ∧ JdAt A H' f w1 P ks c, ?_, ?_⟩
    · exact ⟨_, rfl, _, rfl, _, rfl, _, rfl, rfl, rfl, r, c, p, w1, ks, P, rfl, hp.same' s12, s12 _ _ ep, hP, fun H3 f s3 j3 => ⟨f, rfl, s3, j3⟩⟩
    rintro σ' H3 ⟨f, rfl, s3, j3⟩
    have s13 := s12.trans s3
    have eD3 := s3 _ _ eD2
    have rD3 := RowsAt.same rD2 s3
    refine ⟨fun σ' H' => σ' = [some (.ref r), some (.int w1), some (.int c), some (.ref p), none, some (.ref D), some (.ref f), none, none, none] ∧ Same H3 H', ?_, ?_⟩
    · rcases id j3 with ⟨hT, dx, t0, hf, e0⟩ | ⟨hN, late, al, ne, dx, t0, hf, e0⟩
      · have hls : decide (ls = []) = true := decide_eq_true (hS.mpr hT)
        refine ⟨_, rfl, _, _, .ref A.CG, .ref A.CG, true, rfl, .own A.CG, .base (.ins hf T.cTG T.kaG T.knG T.ktkG T.kmG), (by unfold PySem.W.kitOne; rw [if_pos (by simp)]), _, rfl, by show 0 ≤ sizeLine; decide, fun u nu => ?_⟩
        have a1 := Same.up (o := .lst []) nu
        refine rows_empty (a1 _ _ eD3) (RowsAt.same rD3 a1) upd_same ⟨rfl, _, rfl, ?_⟩
        rw [hls]
        refine ite_b (c := false) (by decide) (iteF ?_)
        generalize upd H3 u (.lst []) = H4 at a1
        refine ⟨_, rfl, _, _, .ref A.CG, .ref A.CU, false, rfl, .own A.CU, .base (.ins (a1 _ _ hf) T.cTG T.kaG T.knG T.ktkG T.kmG), T.kiU_CG, _, rfl, by show 0 ≤ sizeLine; decide, fun u2 nu2 => ?_⟩
        have a2 := Same.up (o := .lst []) nu2
        refine rows_empty (a2 _ _ (a1 _ _ eD3)) (RowsAt.same rD3 (a1.trans a2)) upd_same ⟨rfl, _, rfl, ?_⟩
        rw [hls]
        exact ite_b (c := false) (by decide) (iteF ⟨rfl, a1.trans a2⟩)
      · have hls : decide (ls = []) = false := decide_eq_false fun z => hN (hS.mp z)
        refine ⟨_, rfl, _, _, .ref A.CU, .ref A.CG, false, rfl, .own A.CG, .base (.ins hf T.cTU T.kaU T.knU T.ktkU T.kmU), T.kiG_CU, _, rfl, by show 0 ≤ sizeLine; decide, fun u nu => ?_⟩
        have a1 := Same.up (o := .lst []) nu
        refine rows_empty (a1 _ _ eD3) (RowsAt.same rD3 a1) upd_same ⟨rfl, _, rfl, ?_⟩
        rw [hls]
        refine ite_b (c := false) (by decide) (iteF ?_)
        generalize upd H3 u (.lst []) = H4 at a1
        refine ⟨_, rfl, _, _, .ref A.CU, .ref A.CU, true, rfl, .own A.CU, .base (.ins (a1 _ _ hf) T.cTU T.kaU T.knU T.ktkU T.kmU), (by unfold PySem.W.kitOne; rw [if_pos (by simp)]), _, rfl, by show 0 ≤ sizeLine; decide, fun u2 nu2 => ?_⟩
        have a2 := Same.up (o := .lst []) nu2
        refine rows_empty (a2 _ _ (a1 _ _ eD3)) (RowsAt.same rD3 (a1.trans a2)) upd_same ⟨rfl, _, rfl, ?_⟩
        rw [hls]
        exact ite_b (c := false) (by decide) (iteF ⟨rfl, a1.trans a2⟩)
    rintro σ' H4 ⟨rfl, s4⟩
    have s14 := s13.trans s4
    have j4 := j3.same s4
    refine ⟨fun σ' H' => σ' = [some (.ref r), some (.int w1), some (.int c), some (.ref p), none, some (.ref D), some (.ref f), none, none, none] ∧ Same H4 H', ?_, ?_⟩
    · rcases id j4 with ⟨hT, atf⟩ | ⟨hN, late, al, ne, atf⟩
      · obtain ⟨dx, t0, hf, e0⟩ := id atf
        refine .inl ⟨_, rfl, f, dx, _, rfl, hf, fdG_no _, _, rfl, _, rfl, _, rfl, _, rfl, rfl, rfl, f, r, c, p, w1, ks, _, P, rfl, atf, hp.same' s14, s14 _ _ ep, hP, fun b H5 hb s5 => ?_⟩
        obtain rfl := hb.mpr ⟨hT, rfl⟩
        exact ⟨_, _, rfl, rfl, _, rfl, ite_b (c := false) (by decide) (iteF ⟨rfl, s5⟩)⟩
      · obtain ⟨dx, t0, hf, e0⟩ := id atf
        refine .inr ⟨_, rfl, f, dx, _, rfl, hf, fdU_no _, _, rfl, _, rfl, _, rfl, _, rfl, rfl, rfl, f, r, c, p, w1, ks, late, P, rfl, atf, by rw [al.len]; omega, hp.same' s14, s14 _ _ ep, hP, fun b H5 hb s5 => ?_⟩
        obtain rfl := hb.mpr ⟨al, ne⟩
        exact ⟨_, _, rfl, rfl, _, rfl, ite_b (c := false) (by decide) (iteF ⟨rfl, s5⟩)⟩
    rintro σ' H5 ⟨rfl, s5⟩
    have s15 := s14.trans s5
    have j5 := j4.same s5
    have eD5 := s5 _ _ (s4 _ _ eD3)
    have rD5 := RowsAt.same rD3 (s4.trans s5)
    refine ⟨fun σ' H' => σ' = [some (.ref r), some (.int w1), some (.int c), some (.ref p), none, some (.ref D), some (.ref f), none, none, none] ∧ Same H5 H', ?_, ?_⟩
    · refine ⟨_, rfl, by show 0 ≤ sizeLine; decide, fun u nu => ?_⟩
      have a1 := Same.up (o := .lst []) nu
      refine rows_empty (a1 _ _ eD5) (RowsAt.same rD5 a1) upd_same ⟨_, rfl, ?_⟩
      rcases id j5 with ⟨hT, dx, t0, hf, e0⟩ | ⟨hN, _⟩
      · rw [decide_eq_true (hS.mpr hT)]
        generalize upd H5 u (.lst []) = H6 at a1
        refine iteT ⟨_, rfl, f, A.CG, dx, _, _, rfl, a1 _ _ hf, T.cTG, T.gLeast, fdG_least _, _, rfl, r, ks, rfl, SqT.of (a1 _ _ (s15 _ _ er)), fun z1 p1 hz1 hz2 n1 => ?_⟩
        obtain rfl := srtI_one hz1 hz2
        have a2 := Same.up (o := .lst ((srtI ks).map V.int)) n1
        have f1 : upd H6 p1 (.lst ((srtI ks).map V.int)) p1 = some (.lst ((srtI ks).map V.int)) := upd_same
        generalize upd H6 p1 (.lst ((srtI ks).map V.int)) = H7 at a2 f1
        unfold tNoPart
        refine ⟨_, rfl, _, rfl, p1, _, rfl, SqL.of f1, fun u1 m1 => ?_⟩
        rw [cut_to, ← List.map_take]
        have a3 := a1.trans (a2.trans (Same.up (o := .lst (((srtI ks).take c).map V.int)) m1))
        refine ⟨_, _, .lst (SqL.of (a3 _ _ e0)) (ints_dp _ _ _), .lst (SqL.of upd_same) (ints_dp _ _ _), shaped_ints _, shaped_ints _, _, rfl, ?_⟩
        rw [intsL_eqv, decide_eq_true rfl]
        exact iteF ⟨rfl, a3⟩
      · rw [decide_eq_false fun z => hN (hS.mp z)]
        exact iteF (iteF ⟨rfl, a1⟩)
    rintro σ' H6 ⟨rfl, s6⟩
    have s16 := s15.trans s6
    have j6 := j5.same s6
    have eD6 := s6 _ _ eD5
    have rD6 := RowsAt.same rD5 s6
    have er6 := s16 _ _ er
    have e9 : (10 : Int) ^ ((9 : Int).toNat) = 1000000000 := by decide
    refine ⟨fun σ' H' => ∃ x7 x8 : Option V, σ' = [some (.ref r), some (.int w1), some (.int c), some (.ref p), none, some (.ref D), some (.ref f), x7, x8, none] ∧ Same H6 H', ?_, ?_⟩
    · unfold tNoPart
      refine ⟨_, rfl, r, ks, rfl, SqT.of (er6), fun z_ v1 hz1 hz2 n_ => ?_⟩
      obtain rfl := srtI_one hz1 hz2
      have q1a := Same.up (o := .lst ((srtI ks).map V.int)) n_
      have q1f : upd H6 v1 (.lst ((srtI ks).map V.int)) v1 = some (.lst ((srtI ks).map V.int)) := upd_same
      generalize upd H6 v1 (.lst ((srtI ks).map V.int)) = G1 at q1a q1f
      refine ⟨_, rfl, _, rfl, v1, _, rfl, SqL.of q1f, fun t1 m_ => ?_⟩
      rw [cut_to, ← List.map_take]
      have q1b := q1a.trans (Same.up (o := .lst (((srtI ks).take (c)).map V.int)) m_)
      have q1g : upd G1 t1 (.lst (((srtI ks).take (c)).map V.int)) t1 = some (.lst (((srtI ks).take (c)).map V.int)) := upd_same
      generalize upd G1 t1 (.lst (((srtI ks).take (c)).map V.int)) = G2 at q1b q1g
      refine ⟨_, rfl, r, ks, rfl, SqT.of (q1b _ _ er6), fun z_ v2 hz1 hz2 n_ => ?_⟩
      obtain rfl := srtI_one hz1 hz2
      have q2a := Same.up (o := .lst ((srtI ks).map V.int)) n_
      have q2f : upd G2 v2 (.lst ((srtI ks).map V.int)) v2 = some (.lst ((srtI ks).map V.int)) := upd_same
      generalize upd G2 v2 (.lst ((srtI ks).map V.int)) = G3 at q2a q2f
      refine ⟨_, rfl, _, _, rfl, rfl, _, rfl, v2, _, rfl, SqL.of q2f, fun t2 m_ => ?_⟩
      rw [show cutV ((srtI ks).map V.int) none (some ((c : Int) + 1)) = ((srtI ks).map V.int).take (c + 1) from cut_to _ (c + 1), ← List.map_take]
      have q2b := q2a.trans (Same.up (o := .lst (((srtI ks).take (c + 1)).map V.int)) m_)
      have q2g : upd G3 t2 (.lst (((srtI ks).take (c + 1)).map V.int)) t2 = some (.lst (((srtI ks).take (c + 1)).map V.int)) := upd_same
      generalize upd G3 t2 (.lst (((srtI ks).take (c + 1)).map V.int)) = G4 at q2b q2g
      refine ⟨_, rfl, r, ks, rfl, SqT.of (q2b _ _ (q1b _ _ er6)), fun z_ v3 hz1 hz2 n_ => ?_⟩
      obtain rfl := srtI_one hz1 hz2
      have q3a := Same.up (o := .lst ((srtI ks).map V.int)) n_
      have q3f : upd G4 v3 (.lst ((srtI ks).map V.int)) v3 = some (.lst ((srtI ks).map V.int)) := upd_same
      generalize upd G4 v3 (.lst ((srtI ks).map V.int)) = G5 at q3a q3f
      refine ⟨_, rfl, _, rfl, v3, _, rfl, SqL.of q3f, fun t3 m_ => ?_⟩
      rw [cut_to, ← List.map_take]
      have q3b := q3a.trans (Same.up (o := .lst (((srtI ks).take (c)).map V.int)) m_)
      have q3g : upd G5 t3 (.lst (((srtI ks).take (c)).map V.int)) t3 = some (.lst (((srtI ks).take (c)).map V.int)) := upd_same
      generalize upd G5 t3 (.lst (((srtI ks).take (c)).map V.int)) = G6 at q3b q3g
      have hsl : (srtI ks).length ≤ 4 := by rw [srtI_len]; exact h4
      refine ⟨_, _, rfl, rfl, ⟨by decide, by decide, by decide⟩, by show 1 ≤ sizeLine; decide, fun w2 nw2 => ?_⟩
      have a7 := Same.up (o := .lst [V.int ((10 : Int) ^ ((9 : Int).toNat))]) nw2
      have f7 : upd G6 w2 (.lst [V.int ((10 : Int) ^ ((9 : Int).toNat))]) w2 = some (.lst ([(1000000000 : Int)].map V.int)) := by rw [upd_same, e9]; rfl
      generalize upd G6 w2 (.lst [V.int ((10 : Int) ^ ((9 : Int).toNat))]) = G7 at a7 f7
      refine ⟨t3, w2, _, _, rfl, rfl, a7 _ _ q3g, f7, by rw [List.length_map, List.length_take, sizeLine_eq]; show _ + 1 ≤ _; omega, fun v4 nv4 => ?_⟩
      rw [← List.map_append]
      have a8 := a7.trans (Same.up (o := .lst (((srtI ks).take c ++ [1000000000]).map V.int)) nv4)
      have f8 : upd G7 v4 (.lst (((srtI ks).take c ++ [1000000000]).map V.int)) v4 = some (.lst (((srtI ks).take c ++ [1000000000]).map V.int)) := upd_same
      generalize upd G7 v4 (.lst (((srtI ks).take c ++ [1000000000]).map V.int)) = G8 at a8 f8
      refine ⟨by show 0 ≤ sizeLine; decide, fun e4 ne4 => ?_⟩
      have a9 := Same.up (o := .lst []) ne4
      have f9 : upd G8 e4 (.lst []) e4 = some (.lst (([] : List Int).map V.int)) := upd_same
      generalize upd G8 e4 (.lst []) = G9 at a9 f9
      refine ⟨by show 4 ≤ sizeLine; decide, fun tt ntt => ?_⟩
      have a10 := Same.up (o := .tup [V.ref t1, V.ref t2, V.ref v4, V.ref e4]) ntt
      have f10 : upd G9 tt (.tup [V.ref t1, V.ref t2, V.ref v4, V.ref e4]) tt = some (.tup [V.ref t1, V.ref t2, V.ref v4, V.ref e4]) := upd_same
      generalize upd G9 tt (.tup [V.ref t1, V.ref t2, V.ref v4, V.ref e4]) = G10 at a10 f10
      have b910 := a9.trans a10
      have all : ∀ y ∈ [V.ref t1, V.ref t2, V.ref v4, V.ref e4], KeyL G10 y := fun y hy => by
        simp only [List.mem_cons, List.not_mem_nil, or_false] at hy
        rcases hy with rfl | rfl | rfl | rfl
        · exact ⟨t1, _, rfl, b910 _ _ (a8 _ _ (q3b _ _ (q2b _ _ q1g))), by rw [List.length_take]; omega⟩
        · exact ⟨t2, _, rfl, b910 _ _ (a8 _ _ (q3b _ _ q2g)), by rw [List.length_take]; omega⟩
        · exact ⟨v4, _, rfl, b910 _ _ f8, by rw [List.length_append, List.length_take]; show _ + 1 ≤ 20; omega⟩
        · exact ⟨e4, [], rfl, a10 _ _ f9, by simp⟩
      have s610 : Same H6 G10 := q1b.trans (q2b.trans (q3b.trans (a8.trans b910)))
      refine ⟨tt, rfl, ⟨_, SqT.of f10⟩, ?_⟩
      refine for_it (walk_tup (xs := [V.ref t1, V.ref t2, V.ref v4, V.ref e4])) (fun i σ' H' => ∃ x7 x8 : Option V, σ' = [some (.ref r), some (.int w1), some (.int c), some (.ref p), none, some (.ref D), some (.ref f), x7, x8, none] ∧ Same G10 H') ⟨none, none, rfl, Same.refl _⟩ (fun i σ' H' _ ⟨_, _, _, h⟩ => SqT.of (h _ _ f10)) ?_ (fun σ' H' ⟨x7, x8, e, h⟩ => ⟨x7, x8, e, s610.trans h⟩)
      rintro i y σ' Ho K1 hi ⟨x7, x8, rfl, sK⟩ ⟨rfl, hy⟩
      obtain ⟨t, zs, rfl, et0, hzl⟩ := all y (List.mem_of_getElem? hy)
      have et := sK _ _ et0
      have s6K := s610.trans sK
      have s1K := s16.trans s6K
      refine ⟨fun σ' H' => σ' = [some (.ref r), some (.int w1), some (.int c), some (.ref p), none, some (.ref D), some (.ref f), some (.ref t), some (.bl (decide (ls = []) && decide (zs = (srtI ks).take c))), none] ∧ Same K1 H', ?_, ?_⟩
      · refine ⟨_, rfl, by show 0 ≤ sizeLine; decide, fun u nu => ?_⟩
        have c1 := Same.up (o := .lst []) nu
        refine rows_empty ((s6K.trans c1) _ _ eD6) (RowsAt.same rD6 (s6K.trans c1)) upd_same ⟨_, rfl, ?_⟩
        generalize upd K1 u (.lst []) = K2 at c1
        by_cases hl : ls = []
        · rw [decide_eq_true hl]
          refine iteT ⟨_, rfl, ?_⟩
          refine ⟨_, rfl, r, ks, rfl, SqT.of (c1 _ _ (s1K _ _ er)), fun z_ v5 hz1 hz2 n_ => ?_⟩
          obtain rfl := srtI_one hz1 hz2
          have c2a := Same.up (o := .lst ((srtI ks).map V.int)) n_
          have c2f : upd K2 v5 (.lst ((srtI ks).map V.int)) v5 = some (.lst ((srtI ks).map V.int)) := upd_same
          generalize upd K2 v5 (.lst ((srtI ks).map V.int)) = K3 at c2a c2f
          refine ⟨_, rfl, _, rfl, v5, _, rfl, SqL.of c2f, fun t5 m_ => ?_⟩
          rw [cut_to, ← List.map_take]
          have c2b := c2a.trans (Same.up (o := .lst (((srtI ks).take (c)).map V.int)) m_)
          have c2g : upd K3 t5 (.lst (((srtI ks).take (c)).map V.int)) t5 = some (.lst (((srtI ks).take (c)).map V.int)) := upd_same
          generalize upd K3 t5 (.lst (((srtI ks).take (c)).map V.int)) = K4 at c2b c2g
          refine ⟨_, _, .lst (SqL.of (c2b _ _ (c1 _ _ et))) (ints_dp _ _ _), .lst (SqL.of c2g) (ints_dp _ _ _), shaped_ints _, shaped_ints _, ?_⟩
          rw [intsL_eqv]
          exact ⟨rfl, c1.trans c2b⟩
        · rw [decide_eq_false hl]
          exact iteF ⟨rfl, c1⟩
      rintro σ' K2 ⟨rfl, sK2⟩
      have et2 := sK2 _ _ et
      refine ⟨_, rfl, fun z dz nz ndz nez => ?_⟩
      have et3 : upd (upd K2 dz (.own z)) z (.ins A.CG dz []) t = some (.lst (zs.map V.int)) := by rw [upd_ne (ne_of_none et2 nz), upd_ne (ne_of_none et2 ndz)]; exact et2
      refine ⟨z, dz, t, zs, rfl, upd_same, .inl et3, fun G kG atG => ⟨rfl, ?_⟩⟩
      have sG : Same K2 G := new_same nz ndz kG
      have sAll := s1K.trans (sK2.trans sG)
      obtain ⟨dy, w0, q0, q1⟩ := id atG
      refine ⟨z, dy, _, rfl, q0, fdG_no _, _, rfl, _, rfl, _, rfl, _, rfl, rfl, rfl, z, r, c, p, w1, ks, zs, P, rfl, atG, hp.same' sAll, sAll _ _ ep, hP, fun b G2 hb sb => ⟨_, rfl, rfl, _, rfl, ?_⟩⟩
      have hbe : b = (decide (ls = []) && decide (zs = (srtI ks).take c)) := by
        rw [Bool.eq_iff_iff, hb, Bool.and_eq_true, decide_eq_true_eq, decide_eq_true_eq, hS]
      rw [hbe]
      exact ite_b (c := false) (by rw [decide_eq_true rfl]; rfl) (iteF ⟨_, _, rfl, sK.trans (sK2.trans (sG.trans sb))⟩)
    rintro σ' H7 ⟨x7, x8, rfl, s7⟩
    have s17 := s16.trans s7
    have eD7 := s7 _ _ eD6
    have rD7 := RowsAt.same rD6 s7
    have er7 := s17 _ _ er
    have ep7 := s17 _ _ ep
    have gen : ∀ M : VK, (∀ (H8 : Hp) (t : Addr) (told : List Int), Same H7 H8 → H8 t = some (.tup (told.map V.int)) → told.length = ks.length → M (.ref t) H8) → (tIf (tTest (tOp (rEqD K) (tVar 5) (tLst tNil))) (tVar 0) (tOp (rIxL K) (tVar 5) (tUn (rU fun i => V.int (-i)) (tC (V.int 1))))) [some (.ref r), some (.int w1), some (.int c), some (.ref p), none, some (.ref D), some (.ref f), x7, x8, none] H7 M := fun M h => by
      refine ⟨_, rfl, by show 0 ≤ sizeLine; decide, fun u nu => ?_⟩
      have a1 := Same.up (o := .lst []) nu
      refine rows_empty (a1 _ _ eD7) (RowsAt.same rD7 a1) upd_same ⟨_, rfl, ?_⟩
      by_cases hl : ls = []
      · rw [decide_eq_true hl]
        exact iteT ⟨_, rfl, h _ r ks a1 (a1 _ _ er7) rfl⟩
      · rw [decide_eq_false hl]
        have hx : 0 < xs.length := by
          rw [Paired.length rD7]
          exact List.length_pos_iff.mpr hl
        obtain ⟨hj, t, ht, et⟩ := RowsAt.get (RowsAt.same rD7 a1) (List.getElem?_eq_getElem (show xs.length - 1 < xs.length by omega))
        refine iteF ⟨_, rfl, _, rfl, D, xs, -1, _, rfl, rfl, SqL.of (a1 _ _ eD7), at_last hx, ?_⟩
        rw [ht]
        exact h _ t _ a1 et (hlen _ (List.getElem_mem hj))
    refine ⟨fun σ' H' => ∃ x4 x7 x8 x9 : Option V, σ' = [some (.ref r), some (.int w1), some (.int c), some (.ref p), x4, some (.ref D), some (.ref f), x7, x8, x9] ∧ Same H7 H', ?_, ?_⟩
    · refine ⟨_, rfl, ?_⟩
      refine gen _ fun H8 t told s8 et8 htl => ?_
      refine ⟨_, rfl, r, t, p, ks, told, rfl, s8 _ _ er7, et8, by omega, htl, fun H9 q9 ys s9 e9' l9 z9 => ?_⟩
      have s79 := s8.trans s9
      refine ⟨q9, rfl, ⟨_, SqL.of e9'⟩, ?_⟩
      refine for_it (walk_list (xs := ys)) (fun i σ' H' => ∃ x4 x7 x8 x9 : Option V, σ' = [some (.ref r), some (.int w1), some (.int c), some (.ref p), x4, some (.ref D), some (.ref f), x7, x8, x9] ∧ Same H9 H') ⟨none, x7, x8, none, rfl, Same.refl _⟩ (fun i σ' H' _ ⟨_, _, _, _, _, h⟩ => SqL.of (h _ _ e9')) ?_ (fun σ' H' ⟨x4, x7, x8, x9, e, h⟩ => ⟨x4, x7, x8, x9, e, s79.trans h⟩)
      rintro i y σ' Ho K1 hi ⟨x4, x7, x8, x9, rfl, sK⟩ ⟨rfl, hy⟩
      obtain ⟨tl, late, rfl, etl, hll⟩ := (z9 y (List.mem_of_getElem? hy)).same sK
      have s1K := s17.trans (s79.trans sK)
      refine ⟨fun σ' H' => ∃ b : Bool, σ' = [some (.ref r), some (.int w1), some (.int c), some (.ref p), some (.ref tl), some (.ref D), some (.ref f), x7, some (.bl b), x9] ∧ Same K1 H' ∧ (b = true ↔ Agr ks.length w1 P ks late ∧ (srtI late).take c ≠ (srtI ks).take c), ?_, ?_⟩
      · exact ⟨_, rfl, _, rfl, _, rfl, _, rfl, _, rfl, tl, r, w1, c, p, ks, late, P, rfl, etl, by omega, s1K _ _ er, hp.same' s1K, s1K _ _ ep, hP, fun b H' hb sb => ⟨b, rfl, sb, hb⟩⟩
      rintro σ' K2 ⟨b, rfl, sK2, hb⟩
      have etl2 := sK2 _ _ etl
      refine ⟨_, rfl, _, rfl, tl, _, rfl, .inr (SqT.of etl2), fun p1 np1 => ?_⟩
      have a1 := Same.up (o := .lst (late.map V.int)) np1
      have f1 : upd K2 p1 (.lst (late.map V.int)) p1 = some (.lst (late.map V.int)) := upd_same
      generalize upd K2 p1 (.lst (late.map V.int)) = K3 at a1 f1
      refine ⟨by show 2 ≤ sizeLine; decide, fun u nu => ?_⟩
      have a2 := a1.trans (Same.up (o := .tup [V.ref tl, V.ref p1]) nu)
      have f12 := (Same.up (o := .tup [V.ref tl, V.ref p1]) nu) _ _ f1
      have f2 : upd K3 u (.tup [V.ref tl, V.ref p1]) u = some (.tup [V.ref tl, V.ref p1]) := upd_same
      generalize upd K3 u (.tup [V.ref tl, V.ref p1]) = K4 at a2 f12 f2
      refine ⟨u, rfl, ⟨_, SqT.of f2⟩, ?_⟩
      refine for_it (walk_tup (xs := [V.ref tl, V.ref p1])) (fun i σ' H' => ∃ x9 : Option V, σ' = [some (.ref r), some (.int w1), some (.int c), some (.ref p), some (.ref tl), some (.ref D), some (.ref f), x7, some (.bl b), x9] ∧ Same K4 H') ⟨x9, rfl, Same.refl _⟩ (fun i σ' H' _ ⟨_, _, h⟩ => SqT.of (h _ _ f2)) ?_ (fun σ' H' ⟨x9, e, h⟩ => ⟨_, _, _, x9, e, sK.trans (sK2.trans (a2.trans h))⟩)
      rintro j y σ' Hq K5 hj ⟨x9, rfl, s5'⟩ ⟨rfl, hy2⟩
      obtain ⟨t2, rfl, et2⟩ : ∃ t2 : Addr, y = .ref t2 ∧ (K5 t2 = some (.lst (late.map V.int)) ∨ K5 t2 = some (.tup (late.map V.int))) := by
        have hj : j < 2 := hj
        rcases (show j = 0 ∨ j = 1 by omega) with rfl | rfl
        · exact ⟨tl, (Option.some.inj hy2).symm, .inr (s5' _ _ (a2 _ _ etl2))⟩
        · exact ⟨p1, (Option.some.inj hy2).symm, .inl (s5' _ _ f12)⟩
      refine ⟨_, rfl, fun z dz nz ndz nez => ?_⟩
      have et2' : upd (upd K5 dz (.own z)) z (.ins A.CU dz []) t2 = some (.lst (late.map V.int)) ∨ upd (upd K5 dz (.own z)) z (.ins A.CU dz []) t2 = some (.tup (late.map V.int)) := et2.imp (fun e => by rw [upd_ne (ne_of_none e nz), upd_ne (ne_of_none e ndz)]; exact e) (fun e => by rw [upd_ne (ne_of_none e nz), upd_ne (ne_of_none e ndz)]; exact e)
      refine ⟨z, dz, t2, late, rfl, upd_same, et2', fun G kG atG => ⟨rfl, ?_⟩⟩
      have sG : Same K5 G := new_same nz ndz kG
      have sAll := s1K.trans (sK2.trans (a2.trans (s5'.trans sG)))
      obtain ⟨dy, w0, q0, q1⟩ := id atG
      refine ⟨z, dy, _, rfl, q0, fdU_no _, _, rfl, _, rfl, _, rfl, _, rfl, rfl, rfl, z, r, c, p, w1, ks, late, P, rfl, atG, by omega, hp.same' sAll, sAll _ _ ep, hP, fun b2 G2 hb2 sb => ⟨_, rfl, rfl, _, rfl, ?_⟩⟩
      have hbe : b2 = b := by rw [Bool.eq_iff_iff, hb2, hb]
      rw [hbe]
      exact ite_b (c := false) (by rw [decide_eq_true rfl]; rfl) (iteF ⟨_, rfl, s5'.trans (sG.trans sb)⟩)
    rintro σ' H8 ⟨x4, x7, x8, x9, rfl, s8⟩
    exact q _ (s17.trans s8)
theorem b_lrt (T : Tx K mg A) : L2.Binds K A.d__law_right ["row", "wide", "count", "places"] [] := T.F__law_right.binds fun _ _ _ _ _ _ us hl => match us, hl with | [_, _, _, _], _ => rfl

end
end Tw

set_option Elab.async false
set_option linter.all false
set_option maxRecDepth 100000
set_option maxHeartbeats 2000000
namespace Tw
open PySem PySem.Spec PyProof.Rows L2
section
variable {P : Program} {w : World} {K : PySem.W.Frag} {mg : Str → Option Value} {base : Heap} {A : Ad}
open LamX (ExtN Tabs TabS)
structure GrowH (w i : Nat) (ks : List Int) : Prop where
  len : ks.length = i
  hp : HeapL i w ks
  bd : ∀ z ∈ ks, -400000 ≤ z ∧ z ≤ 600000 * (i : Int)
theorem b_lhp (T : Tx K mg A) : L2.Binds K A.d__law_heap ["script", "at", "many", "wide", "span"] [] := T.F__law_heap.binds fun _ _ _ _ _ _ us hl => match us, hl with | [_, _, _, _, _], _ => rfl
theorem b_num (T : Tx K mg A) : L2.Binds K A.d__law_number ["script", "index"] [] := T.F__law_number.binds fun _ _ _ _ _ _ us hl => match us, hl with | [_, _], _ => rfl
theorem key_at {ks : List Int} {p : Nat} (h : p < ks.length) : atI (ks.map V.int) (p : Int) = some (V.int (keyAt ks p)) := by
  have e : (ks.map V.int)[p]? = some (V.int (keyAt ks p)) := by
    unfold keyAt
    rw [List.getElem?_map, List.getD_eq_getElem?_getD, List.getElem?_eq_getElem h]
    rfl
  exact atI_nat e
theorem emp_eqv : ∀ ns : List Int, PyData.eqv (.list (ns.map PyData.int)) (.list []) = decide (ns = [])
  | [] => by rfl
  | n :: ns => by rfl
theorem cut63 (xs : List V) (h : xs.length ≤ 63) : cutV xs none (some 63) = xs := by
  unfold cutV
  rw [HT.sIx_none, show (63 : Int) = ((63 : Nat) : Int) from rfl, HT.sIx_nat, List.drop_zero, Nat.min_eq_right h, Nat.sub_zero, List.take_length]
def spNum (K : PySem.W.Frag) : Sp := fun vs H Q _ => ∃ (a : Addr) (ns : List Int) (i : Nat), vs = [.ref a, .int i] ∧ SqL K H a (ns.map V.int) ∧ ns.length ≤ 63 ∧ i < 1000000 ∧ ∀ H' r, Same H H' → Q (.int r) H'
theorem ok_num (T : Tx K mg A) : FnOk P w K mg base CX0 2 A.f__law_number A.d__law_number ["script", "index"] (spNum K) := by
  refine T.F__law_number.ok sc__law_number (fun vs H Q E h => ?_) (fun cdv B outer s H vs Q E hr h => ?_)
  · obtain ⟨a, ns, i, rfl, _⟩ := h
    rfl
  · obtain ⟨a, ns, i, rfl, ha, hl, hi, q⟩ := h
    have nd := sc__law_number.nd
    have hu := hr.units
    refine ⟨_, C8.pss_cut (ps_set (i := 2) nd rfl (Or.inl rfl) (pe_ifExp (pt_cmpR (op_neD hu) (pv 0) (pe_lst pa_nil) (nomark _)) (pe_slice sl_list (pv 0) po_none (po_some pe_int)) (pe_lst (pa_cons pe_int pa_nil))))
      (pss_cons (ps_set (i := 3) nd rfl (Or.inl rfl) (pe_op op_add
        (pe_ix ix_list (pv 2) (pe_op op_mod (pe_callTy call_int1 (by rfl) T.g_int (by decide +kernel) (pa_cons (pv 1) pa_nil)) (pe_callB call_len_seq (by rfl) T.g_len PySem.boot_len (pa_cons (pv 2) pa_nil))) (fun _ _ => rfl))
        (pe_op op_mul pe_int (pe_op op_fdivN (pv 1) (pe_callB call_len_seq (by rfl) T.g_len PySem.boot_len (pa_cons (pv 2) pa_nil))))))
      (pss_cons (ps_par (i := 4) (j := 5) rfl nd rfl rfl (by decide) rfl rfl (pa_cons (pe_op op_mod (pe_callTy call_int1 (by rfl) T.g_int (by decide +kernel) (pa_cons (pv 3) pa_nil)) pe_int)
          (pa_cons (pe_op op_mod (pe_callTy call_int1 (by rfl) T.g_int (by decide +kernel) (pa_cons (pe_op op_fdivN (pv 3) pe_int) pa_nil)) pe_int) pa_nil)) rfl)
      (pss_cons (ps_set (i := 6) nd rfl (Or.inl rfl) (pe_op op_mod (pe_callTy call_int1 (by rfl) T.g_int (by decide +kernel) (pa_cons (pe_callB (cr_sum rfl) (by rfl) T.g_sum (by decide +kernel) (pa_cons (pv 2) pa_nil)) pa_nil)) pe_int))
      (pss_cons (ps_set (i := 7) nd rfl (Or.inl rfl) (pe_op op_mod (pe_callTy call_int1 (by rfl) T.g_int (by decide +kernel) (pa_cons
          (pe_op op_add (pe_op op_add (pe_op op_mul (pe_op op_add (pv 4) (pe_op op_mul pe_int (pv 1))) pe_int) (pe_op op_mul pe_int (pv 5))) (pv 6)) pa_nil)) pe_int))
      (pss_one (ps_ret (pe_op op_add (pe_op op_mul (pe_op op_mod (pe_callTy call_int1 (by rfl) T.g_int (by decide +kernel) (pa_cons
          (pe_op op_mul (pv 7) (pe_op op_add (pe_op op_add (pv 7) (pe_op op_mul pe_int (pv 1))) pe_int)) pa_nil)) pe_int) pe_int) (pv 5)))))))), ?_⟩
    refine ⟨fun σ H1 => ∃ (c : Addr) (cs : List Int), σ = [some (.ref a), some (.int i), some (.ref c), none, none, none, none, none] ∧ Same H H1 ∧ H1 c = some (.lst (cs.map V.int)) ∧ 0 < cs.length ∧ cs.length ≤ 63, ?_, ?_⟩
    · refine ⟨_, rfl, Nat.zero_le _, fun l0 hl0 => ?_⟩
      have hs0 : Same H (upd H l0 (.lst [])) := Same.up hl0
      refine ⟨.list (ns.map PyData.int), .list [], .lst (hs0.seq ha) (ints_dp _ _ _), .lst (SqL.of upd_same) .nil, ?_, rfl, _, rfl, ?_⟩
      · exact shaped_ints _
      · rw [emp_eqv]
        by_cases e : ns = []
        · rw [decide_eq_true e]
          refine iteF ⟨by show 1 ≤ sizeLine; decide, fun l1 hl1 => ⟨l1, [5], rfl, hs0.trans (Same.up hl1), upd_same, by decide, by decide⟩⟩
        · rw [decide_eq_false e]
          refine iteT ⟨_, rfl, _, rfl, a, _, rfl, hs0.seq ha, fun l1 hl1 => ⟨l1, ns, rfl, hs0.trans (Same.up hl1), ?_, ?_, hl⟩⟩
          · rw [upd_same]
            exact congrArg (fun z => some (HO.lst z)) (cut63 _ (by rw [List.length_map]; exact hl))
          · exact List.length_pos_iff.mpr e
    · rintro σ H1 ⟨c, cs, rfl, s1, hc, h0, h63⟩
      have hq := SqL.of (K := K) hc
      have hL : ((cs.map V.int).length : Int) = (cs.length : Int) := by rw [List.length_map]
      have hm0 : 0 ≤ (i : Int) % (cs.length : Int) := Int.emod_nonneg _ (by omega)
      have hm1 : (i : Int) % (cs.length : Int) < (cs.length : Int) := Int.emod_lt_of_pos _ (by omega)
      obtain ⟨j, hj⟩ : ∃ j : Nat, (i : Int) % (cs.length : Int) = (j : Int) := ⟨_, (Int.toNat_of_nonneg hm0).symm⟩
      have hjl : j < cs.length := by omega
      have hat : atI (cs.map V.int) ((i : Int) % ((cs.map V.int).length : Int)) = some (V.int cs[j]) := by
        rw [hL, hj]
        exact atI_nat (by rw [List.getElem?_map, List.getElem?_eq_getElem hjl]; rfl)
      refine ⟨_, rfl, _, rfl, .inl ⟨_, rfl, _, rfl, c, _, rfl, .inl hq, _, _, rfl, rfl, ?_, c, _, _, _, rfl, rfl, hq, hat, _, rfl, _, rfl, c, _, rfl, .inl hq, _, _, rfl, rfl, ⟨?_, ?_⟩, _, _, rfl, rfl, .inl ⟨by decide, by decide⟩, _, _, rfl, rfl, ?_⟩⟩
      · show (0 : Int) < ((cs.map V.int).length : Int)
        omega
      · omega
      · omega
      · refine ⟨_, rfl, .inl ⟨_, rfl, _, _, rfl, rfl, by show (0 : Int) < 1000003; decide, ?_⟩⟩
        refine ⟨_, rfl, _, _, rfl, rfl, ⟨by decide, by decide⟩, .inl ⟨_, rfl, _, _, rfl, rfl, by show (0 : Int) < 999983; decide, _, _, rfl, ?_⟩⟩
        refine ⟨_, rfl, c, cs, rfl, hq, .inl ⟨_, rfl, _, _, rfl, rfl, by show (0 : Int) < 65521; decide, ?_⟩⟩
        refine ⟨_, rfl, _, rfl, _, _, rfl, rfl, .inl ⟨by decide, by decide⟩, _, _, rfl, rfl, _, _, rfl, rfl, .inr ⟨by decide, by decide⟩, ?_⟩
        refine ⟨_, rfl, _, _, rfl, rfl, .inl ⟨by decide, by decide⟩, _, _, rfl, rfl, _, rfl, _, _, rfl, rfl, .inl ⟨_, rfl, _, _, rfl, rfl, by show (0 : Int) < 2147483647; decide, ?_⟩⟩
        refine ⟨_, rfl, _, rfl, _, rfl, _, _, rfl, rfl, .inl ⟨by decide, by decide⟩, _, _, rfl, rfl, _, _, rfl, rfl, _, _, rfl, rfl, .inl ⟨?_, ?_⟩, .inl ⟨_, rfl, _, _, rfl, rfl, by show (0 : Int) < 2147483629; decide, ?_⟩⟩
        · have := Int.emod_nonneg ((((cs[j] + 13 * Int.fdiv (i : Int) ((cs.map V.int).length : Int)) % 1000003 + 977 * (i : Int)) * 48271 + 31 * (Int.fdiv (cs[j] + 13 * Int.fdiv (i : Int) ((cs.map V.int).length : Int)) 1000003 % 999983)) + cs.sum % 65521) (show (2147483647 : Int) ≠ 0 by decide)
          omega
        · have := Int.emod_lt_of_pos ((((cs[j] + 13 * Int.fdiv (i : Int) ((cs.map V.int).length : Int)) % 1000003 + 977 * (i : Int)) * 48271 + 31 * (Int.fdiv (cs[j] + 13 * Int.fdiv (i : Int) ((cs.map V.int).length : Int)) 1000003 % 999983)) + cs.sum % 65521) (show (0 : Int) < 2147483647 by decide)
          omega
        · exact ⟨_, _, rfl, rfl, .inr ⟨by decide, by decide⟩, _, rfl, _, _, rfl, rfl, q _ _ s1⟩
theorem GrowH.step {w i : Nat} {ks : List Int} {least x : Int} (h : GrowH w i ks) (hl : if 0 < i then least = keyAt ks ((i - 1) / w) else (-400000 ≤ least ∧ least ≤ 0)) (h1 : least ≤ x) (h2 : x ≤ least + 600000) : GrowH w (i + 1) (ks ++ [x]) := by
  have hlen := h.len
  have hb : -400000 ≤ least ∧ least ≤ 600000 * (i : Int) := by
    by_cases hi : 0 < i
    · rw [if_pos hi] at hl
      rw [hl]
      exact h.bd _ (keyAt_mem (by have := Nat.div_le_self (i - 1) w; omega))
    · rw [if_neg hi] at hl
      exact ⟨hl.1, by omega⟩
  refine ⟨by rw [List.length_append, List.length_singleton, hlen], fun c hc1 hc2 => ?_, fun z hz => ?_⟩
  · have hd := Nat.div_le_self (c - 1) w
    rw [keyAt_snoc, keyAt_snoc, if_pos (by omega)]
    by_cases hc : c < ks.length
    · rw [if_pos hc]
      exact h.hp c hc1 (by omega)
    · have hci : c = i := by omega
      rw [if_neg hc, if_pos (by omega), hci]
      rw [if_pos (by omega)] at hl
      rw [← hl]
      exact h1
  · rcases List.mem_append.mp hz with hz | hz
    · have := h.bd z hz
      exact ⟨this.1, by have := this.2; omega⟩
    · rw [List.mem_singleton.mp hz]
      exact ⟨by omega, by omega⟩
def spLhp (K : PySem.W.Frag) : Sp := fun vs H Q _ => ∃ (a : Addr) (ns : List Int) (at' n w : Nat) (sp : Int), vs = [.ref a, .int at', .int n, .int w, .int sp] ∧ SqL K H a (ns.map V.int) ∧ ns.length ≤ 63 ∧ at' ≤ 1000 ∧ n ≤ 12 ∧ (1 ≤ w ∧ w ≤ 4) ∧ (3 ≤ sp ∧ sp ≤ 1000000) ∧
  ∀ H' q (ks : List Int), Same H H' → H' q = some (.tup (ks.map V.int)) → GrowH w n ks → Q (.ref q) H'
theorem ok_lhp (T : Tx K mg A) : FnOk P w K mg base CX0 3 A.f__law_heap A.d__law_heap ["script", "at", "many", "wide", "span"] (spLhp K) := by
  refine T.F__law_heap.ok sc__law_heap (fun vs H Q E h => ?_) (fun cdv B outer s H vs Q E hr h => ?_)
  · obtain ⟨a, ns, at', n, w, sp, rfl, _⟩ := h
    rfl
  · obtain ⟨a, ns, at', n, w, sp, rfl, ha, h63, hat, hn, hw, hsp, q⟩ := h
    have nd := sc__law_heap.nd
    refine ⟨_, (pss_cons (ps_set (i := 5) nd rfl (Or.inl rfl) (pe_lst pa_nil))
      (C8.pss_cut (ps_for PassesOwn.never rfl (pi_range1 rfl T.g_range (pa_cons (pv 2) pa_nil)) (pg_name (i := 6) nd rfl (Or.inl rfl)) (C8.pss_cut (ps_set (i := 7) nd rfl (Or.inl rfl) (pe_ifExp (pt_cmpR op_gt (pv 6) pe_int (nomark _)) (pe_ix (r := rIxL K) ix_list (pv 5) (pe_op op_fdivN (pe_op op_sub (pv 6) pe_int) (pv 3)) (fun _ _ => rfl)) (pe_op op_fdiv (pe_un un_neg (pv 4)) pe_int)))
      (pss_one (ps_expr (pe_bm PySem.F.plainAttrs_list PySem.F.slot_list_append PySem.F.type_list_append mt_append (pv 5) (pa_cons (pe_op op_add (pv 7) (pe_op op_mod (pe_callTy call_int1 (by rfl) T.g_int (by decide +kernel) (pa_cons (pe_call (ok_num T) (hr.mono (by decide)) (by rfl) T.m__law_number T.F__law_number.kp (b_num T) .nil pass0 (pa_cons (pv 0) (pa_cons (pe_op op_add (pv 1) (pv 6)) pa_nil))) pa_nil)) (pe_op op_add (pe_op op_fdiv (pv 4) pe_int) pe_int))) pa_nil))))))
      (pss_one (ps_ret (pe_callTy call_tuple_of (by rfl) T.g_tuple (by decide +kernel) (pa_cons (pv 5) pa_nil)))))), ?_⟩
    refine ⟨Nat.zero_le _, fun D nD => ?_⟩
    have s0 := Same.up (o := .lst []) nD
    refine ⟨fun σ' H' => ∃ (x6 x7 : Option V) (ks : List Int), σ' = [some (.ref a), some (.int at'), some (.int n), some (.int w), some (.int sp), some (.ref D), x6, x7] ∧ Same H H' ∧ H' D = some (.lst (ks.map V.int)) ∧ GrowH w n ks, ?_, ?_⟩
    · refine ⟨_, rfl, _, rfl, by omega, by omega, ?_⟩
      rw [Int.toNat_natCast]
      refine for_it (walk_range (lo := 0) (n := n)) (fun i σ' H' => ∃ (x6 x7 : Option V) (ks : List Int), σ' = [some (.ref a), some (.int at'), some (.int n), some (.int w), some (.int sp), some (.ref D), x6, x7] ∧ Same H H' ∧ H' D = some (.lst (ks.map V.int)) ∧ GrowH w i ks)
        ⟨none, none, [], rfl, s0, upd_same, rfl, fun c h1 h2 => by omega, fun k hk => nomatch hk⟩ (fun _ _ _ _ _ => trivial) ?_ ?_
      · rintro i y σ' H2 H3 hi ⟨x6, x7, ks, rfl, s3, e3, gh⟩ ⟨rfl, ey⟩
        obtain rfl : y = V.int (i : Nat) := by
          rw [ey]
          show V.int (0 + (i : Int)) = _
          rw [Int.zero_add]
        have hkl := gh.len
        refine ⟨fun σ' H' => ∃ least : Int, σ' = [some (.ref a), some (.int at'), some (.int n), some (.int w), some (.int sp), some (.ref D), some (.int i), some (.int least)] ∧ H' = H3 ∧ (if 0 < i then least = keyAt ks ((i - 1) / w) else (-400000 ≤ least ∧ least ≤ 0)), ?_, ?_⟩
        · refine ⟨_, rfl, _, _, rfl, rfl, _, rfl, ?_⟩
          by_cases h0 : 0 < i
          · rw [decide_eq_true (show ((i : Nat) : Int) > 0 by omega)]
            have e : Int.fdiv ((i : Int) - 1) (w : Int) = ((i - 1) / w : Nat) := by
              rw [Int.fdiv_eq_ediv_of_nonneg _ (by omega), show ((i : Int) - 1) = ((i - 1 : Nat) : Int) by omega]
              rfl
            have hd := Nat.div_le_self (i - 1) w
            refine iteT ⟨_, rfl, _, rfl, _, _, rfl, rfl, _, rfl, _, _, rfl, rfl, ⟨by omega, by omega⟩, D, _, _, _, rfl, rfl, SqL.of e3, (by rw [e]; exact key_at (by omega)), _, rfl, rfl, by rw [if_pos h0]⟩
          · rw [decide_eq_false (show ¬ ((i : Nat) : Int) > 0 by omega)]
            refine iteF ⟨_, rfl, _, rfl, _, _, rfl, rfl, ⟨by decide, by decide⟩, _, rfl, rfl, ?_⟩
            rw [if_neg h0]
            omega
        rintro σ' H4 ⟨least, rfl, rfl, hle⟩
        refine ⟨_, rfl, .inl ⟨rfl, _, SqL.of e3⟩, _, rfl, _, rfl, _, rfl, _, rfl, _, _, rfl, rfl, a, ns, at' + i, rfl, s3.seq ha, h63, by omega, fun H4 r s4 => ?_⟩
        have e4 := s4 _ _ e3
        refine .inl ⟨_, rfl, _, rfl, _, _, rfl, rfl, ⟨by decide, by decide⟩, _, _, rfl, rfl, _, _, rfl, rfl, by omega, _, _, rfl, rfl, D, _, _, rfl, rfl, e4, small1000 (by rw [List.length_map]; omega), ?_⟩
        have hm1 := Int.emod_nonneg r (show sp / 2 + 1 ≠ 0 by omega)
        have hm2 := Int.emod_lt_of_pos r (show (0 : Int) < sp / 2 + 1 by omega)
        refine ⟨_, _, ks ++ [least + r % (sp / 2 + 1)], rfl, fun b o z => ?_, ?_, gh.step hle (by omega) (by omega)⟩
        · rw [upd_ne (ne_of_none z nD)]
          exact s4 _ _ (s3 _ _ z)
        · rw [upd_same, map_one]
      · rintro σ' H2 ⟨x6, x7, ks, rfl, s3, e3, gh⟩
        exact ⟨x6, x7, ks, rfl, s3, e3, gh⟩
    · rintro σ' H2 ⟨x6, x7, ks, rfl, s3, e3, gh⟩
      exact ⟨_, rfl, D, _, rfl, .inl ⟨SqL.of e3, fun t nt => q _ t ks (s3.trans (Same.up nt)) upd_same gh⟩⟩
theorem q5 : ¬ (("changes" : Str) = "looks") := by decide +kernel
theorem tupK {K : PySem.W.Frag} {H : Hp} {t : Addr} {xs : List V} {Q : VK} (h : Sq H t xs) (q : ∀ (H' : Hp) (p : Addr), Same H H' → H' p = some (.tup xs) → Q (.ref p) H') : rTupK K [.ref t] H Q := by
  rcases h with h | h
  · exact ⟨t, xs, rfl, .inl ⟨SqL.of h, fun l nl => q _ l (Same.up nl) upd_same⟩⟩
  · exact ⟨t, xs, rfl, .inr ⟨SqT.of h, q _ t (Same.refl _) h⟩⟩
end
end Tw

set_option Elab.async false
set_option linter.all false
set_option maxRecDepth 100000
set_option maxHeartbeats 2000000
namespace Tw
open PySem PySem.Spec PyProof.Rows L2
section
variable {P : Program} {w : World} {K : PySem.W.Frag} {mg : Str → Option Value} {base : Heap} {A : Ad}
open LamX (ExtN Tabs TabS)
/-! the law: rg_pl nv sIx_m1 tupK slTup catInt Acc.push keyAt_get srtI_asc Bag PSet2 nv_len ok_num ok_lhp GrowH heap_fault nv natB walk_range Acc RowIn HeapL -/
theorem cut_mid {xs : List V} (h : 1 ≤ xs.length) : cutV xs (some 1) (some (-1)) = (xs.drop 1).take (xs.length - 2) := by
  unfold cutV
  rw [sIx_m1 _ h, show (some (1 : Int)) = some ((1 : Nat) : Int) from rfl, HT.sIx_nat, Nat.min_eq_left h, Nat.sub_sub]
theorem heap_asc {n w : Nat} {z : Int} {l : List Int} (hl : (z :: l).length = n) (hz : ∀ x ∈ l, z ≤ x) (hs : l.Pairwise (· ≤ ·)) : HeapL n w (z :: l) := by
  intro c h1 h2
  have hd : (c - 1) / w ≤ c - 1 := Nat.div_le_self _ _
  have p : (z :: l).Pairwise (· ≤ ·) := List.pairwise_cons.mpr ⟨hz, hs⟩
  rw [keyAt_get (by omega), keyAt_get (by omega)]
  exact List.pairwise_iff_getElem.mp p _ _ _ _ (by omega)
def PSt (n : Nat) (H : Hp) (x : V) : Prop := ∃ (t : Addr) (P : List Nat), x = .ref t ∧ H t = some (.tup (nv P)) ∧ PSet2 n P
theorem PSt.same {n : Nat} {H H' : Hp} {x : V} (h : PSt n H x) (s : Same H H') : PSt n H' x := let ⟨t, S, e, q, r⟩ := h; ⟨t, S, e, s _ _ q, r⟩
theorem PSt.put {n : Nat} {H : Hp} {x : V} {D : Addr} {o : HO} (h : PSt n H x) (k : x ≠ .ref D) : PSt n (upd H D o) x := let ⟨t, S, e, q, r⟩ := h; ⟨t, S, e, (upd_ne (fun z => k (by rw [e, z]))).trans q, r⟩
theorem Bag.pSame {n m : Nat} {H1 H H' : Hp} {D : Addr} (h : Bag (PSt n) H1 D m H) (s : Same H H') : Bag (PSt n) H1 D m H' := ⟨h.s.trans s, h.n, let ⟨ys, e, l, z⟩ := h.a; ⟨ys, s _ _ e, l, fun y hy => ⟨(z y hy).1, (z y hy).2.same s⟩⟩⟩
theorem Bag.pPush {n m : Nat} {H1 H : Hp} {D : Addr} {x : V} (h : Bag (PSt n) H1 D m H) (hx : PSt n H x) (hm : m < 1000000) : ∃ acc, H D = some (.lst acc) ∧ acc.length < sizeLine ∧ Bag (PSt n) H1 D (m + 1) (upd H D (.lst (acc ++ [x]))) := by
  obtain ⟨ys, e, l, z⟩ := h.a
  have hn : x ≠ .ref D := fun w => by
    obtain ⟨t, S, e', q, r⟩ := hx
    rw [e'] at w
    have w : t = D := by injection w
    rw [w, e] at q
    cases q
  refine ⟨ys, e, by rw [sizeLine_eq]; omega, fun b o k => ?_, h.n, ys ++ [x], upd_same, by rw [List.length_append]; show _ + 1 ≤ _; omega, fun y hy => ?_⟩
  · rw [upd_ne (ne_of_none k h.n)]
    exact h.s _ _ k
  · rcases List.mem_append.mp hy with hy | hy
    · exact ⟨(z y hy).1, (z y hy).2.put (z y hy).1⟩
    · rw [List.mem_singleton.mp hy]
      exact ⟨hn, hx.put hn⟩
theorem PSt.nil (n : Nat) {H : Hp} {t : Addr} (e : H t = some (.tup [])) : PSt n H (.ref t) := ⟨t, [], rfl, e, ⟨fun p hp => (nomatch hp), List.Pairwise.nil, Nat.zero_le _⟩⟩
theorem PSt.all {n : Nat} {H : Hp} {t : Addr} (hn : n ≤ 12) (e : H t = some (.tup (nv (List.range n)))) : PSt n H (.ref t) := ⟨t, _, rfl, e, ⟨fun p hp => List.mem_range.mp hp, List.pairwise_lt_range, by rw [List.length_range]; exact hn⟩⟩
theorem rg_nv (n : Nat) : rgV 0 (n : Int) = nv (List.range n) := by
  rw [rg_pl]
  unfold pl nv natB
  rw [List.map_map]
  rfl
theorem slLs {K : PySem.W.Frag} {H : Hp} {a : Addr} {xs : List V} {lo hi : Option Int} {Q : VK} (h : H a = some (.lst xs)) (q : ∀ (H' : Hp) (p : Addr), Same H H' → H' p = some (.lst (cutV xs lo hi)) → Q (.ref p) H') : rSlL K (.ref a) lo hi H Q := ⟨a, xs, rfl, SqL.of h, fun p np => q _ p (Same.up np) upd_same⟩
theorem catLs {H : Hp} {a b : Addr} {xs ys : List V} {Q : VK} (ha : H a = some (.lst xs)) (hb : H b = some (.lst ys)) (hl : xs.length + ys.length ≤ 1000) (q : ∀ (H' : Hp) (p : Addr), Same H H' → H' p = some (.lst (xs ++ ys)) → Q (.ref p) H') : rCat (.ref a) (.ref b) H Q :=
  ⟨a, b, xs, ys, rfl, rfl, ha, hb, by rw [sizeLine_eq]; omega, fun r nr => q _ r (Same.up nr) upd_same⟩
theorem cut_lenV (xs : List V) (lo hi : Option Int) : (cutV xs lo hi).length ≤ xs.length := by
  unfold cutV
  rw [List.length_take, List.length_drop]
  omega
theorem cut_mem {xs : List V} {lo hi : Option Int} {x : V} (h : x ∈ cutV xs lo hi) : x ∈ xs := List.mem_of_mem_drop (List.mem_of_mem_take h)
def spLaw (K : PySem.W.Frag) : Sp := fun vs H Q _ => ∃ (a : Addr) (ns : List Int), vs = [.ref a] ∧ SqL K H a (ns.map V.int) ∧ ns.length ≤ 63 ∧ ∀ H', Q (.bl true) H'
theorem ok_law (T : Tx K mg A) : FnOk P w K mg base CX0 14 A.f_law A.d_law ["script"] (spLaw K) := by
  refine T.F_law.ok sc_law (fun vs H Q E h => ?_) (fun cdv B outer s H vs Q E hr h => ?_)
  · obtain ⟨a, ns, rfl, _⟩ := h
    rfl
  · obtain ⟨a, ns, rfl, ha, h63, q⟩ := h
    have nd := sc_law.nd
    have hu := hr.units
    refine ⟨_, PSs.nox (C8.pss_cut (ps_set (i := 1) nd rfl (Or.inl rfl) (pe_callTy call_int1 (by rfl) T.g_int (by decide +kernel) (pa_cons (pe_call (ok_num T) (hr.mono (by decide)) (by rfl) T.m__law_number T.F__law_number.kp (b_num T) .nil pass0 (pa_cons (pv 0) (pa_cons pe_int pa_nil))) pa_nil)))
      (C8.pss_cut (ps_asg (pe_tup (pa_cons (pe_op op_add pe_int (pe_op op_mod (pe_callTy call_int1 (by rfl) T.g_int (by decide +kernel) (pa_cons (pv 1) pa_nil)) pe_int)) (pa_cons (pe_op op_add pe_int (pe_op op_mod (pe_callTy call_int1 (by rfl) T.g_int (by decide +kernel) (pa_cons (pe_op op_fdiv (pv 1) pe_int) pa_nil)) pe_int)) (pa_cons (pe_ix (r := rIxT K) ix_tup (pe_tup (pa_cons pe_int (pa_cons pe_int (pa_cons pe_int (pa_cons (pe_op op_pow pe_int pe_int) pa_nil))))) (pe_op op_mod (pe_callTy call_int1 (by rfl) T.g_int (by decide +kernel) (pa_cons (pe_op op_fdiv (pv 1) pe_int) pa_nil)) pe_int) (fun _ _ => rfl)) pa_nil)))) (pg_tup rfl (pgs_cons (pg_name (i := 2) nd rfl (Or.inl rfl)) (pgs_cons (pg_name (i := 3) nd rfl (Or.inr rfl)) (pgs_cons (pg_name (i := 4) nd rfl (Or.inl rfl)) pgs_nil)))))
      (C8.pss_cut (ps_set (i := 5) nd rfl (Or.inr rfl) (pe_call (ok_lhp T) (hr.mono (by decide)) (by rfl) T.m__law_heap T.F__law_heap.kp (b_lhp T) .nil pass0 (pa_cons (pv 0) (pa_cons pe_int (pa_cons (pv 2) (pa_cons (pv 3) (pa_cons (pv 4) pa_nil)))))))
      (C8.pss_cut (ps_if (pt_cmpR op_eq (pe_op op_mod (pe_callTy call_int1 (by rfl) T.g_int (by decide +kernel) (pa_cons (pe_op op_fdiv (pv 1) pe_int) pa_nil)) pe_int) pe_int (nomark _)) (C8.pss_cut (ps_set (i := 5) nd rfl (Or.inr rfl) (pe_op (r := rCatA K) op_catA (pe_op (r := rCatA K) op_catA (pe_tup (pa_cons (pe_un un_neg (pe_op op_pow pe_int pe_int)) pa_nil)) (pe_callTy (r := rTupK K) call_tupleK (by rfl) T.g_tuple (by decide +kernel) (pa_cons (pe_lc (own := [("key", 10)]) (g := gName 10) (tt := tYes) rfl nd (pi_tup (pe_slice (r := rSlA K) sl_tupA (pv 5) (po_some pe_int) (po_some (pe_un un_neg pe_int)))) (blkOk_by (own := [("key", 10)]) (N := ["script", "seed", "many", "wide", "span", "row", "some", "size", "start", "places", "key", "one", "count"]) (sc := defScope s_law) (by decide +kernel)) (fun _ _ _ _ _ => pg_name (i := 10) nd rfl (Or.inl rfl)) (fun _ _ _ _ _ => pts_nil) (fun _ _ _ _ _ => (pe_callB (call_max2 rfl) (by rfl) T.g_max (by decide +kernel) (pa_cons (pv 10) (pa_cons pe_int pa_nil))))) pa_nil))) (pe_ifExp (pt_cmpR op_gt (pv 2) pe_int (nomark _)) (pe_tup (pa_cons (pe_op op_pow pe_int pe_int) pa_nil)) (pe_tup pa_nil))))
      (pss_one (ps_set (i := 5) nd rfl (Or.inr rfl) (pe_callTy (r := rTupK K) call_tupleK (by rfl) T.g_tuple (by decide +kernel) (pa_cons (pe_op op_cat (pe_lst (pa_cons (pe_ix (r := rIxT K) ix_tup (pv 5) pe_int (fun _ _ => rfl)) pa_nil)) (pe_callB cr_sortedTu (by rfl) T.g_sorted (by decide +kernel) (pa_cons (pe_slice (r := rSlA K) sl_tupA (pv 5) (po_some pe_int) po_none) pa_nil))) pa_nil))))) pss_nil)
      (C8.pss_cut (ps_set (i := 6) nd rfl (Or.inl rfl) (pe_lst pa_nil))
      (C8.pss_cut (ps_for PassesOwn.never rfl (pi_range1 rfl T.g_range (pa_cons (pe_op op_add (pv 2) pe_int) pa_nil)) (pg_name (i := 7) nd rfl (Or.inl rfl)) (pss_one (ps_set (i := 6) nd rfl (Or.inl rfl) (pe_op op_cat (pv 6) (pe_lc (own := [("one", 11)]) (g := gName 11) (tt := tYes) rfl nd (pi_list (pe_call (ok_lst T) (hr.mono (by decide)) (by rfl) T.m__law_sets T.F__law_sets.kp (b_lst T) .nil pass0 (pa_cons (pe_listRg rfl (by rfl) T.g_list (prg_1 (by rfl) T.g_range (pv 2))) (pa_cons (pv 7) pa_nil)))) (blkOk_by (own := [("one", 11)]) (N := ["script", "seed", "many", "wide", "span", "row", "some", "size", "start", "places", "key", "one", "count"]) (sc := defScope s_law) (by decide +kernel)) (fun _ _ _ _ _ => pg_name (i := 11) nd rfl (Or.inl rfl)) (fun _ _ _ _ _ => pts_nil) (fun _ _ _ _ _ => (pe_callTy (r := rTupK K) call_tupleK (by rfl) T.g_tuple (by decide +kernel) (pa_cons (pv 11) pa_nil))))))))
      (C8.pss_cut (ps_set (i := 8) nd rfl (Or.inl rfl) (pe_op op_mod (pe_callTy call_int1 (by rfl) T.g_int (by decide +kernel) (pa_cons (pe_op op_fdiv (pv 1) pe_int) pa_nil)) (pe_callB (r := rLn K) call_len_seq (by rfl) T.g_len PySem.boot_len (pa_cons (pv 6) pa_nil))))
      (C8.pss_cut (ps_for PassesOwn.never rfl (pi_list (pe_op op_cat (pe_slice (r := rSlL K) sl_list (pe_op op_cat (pe_slice (r := rSlL K) sl_list (pv 6) (po_some (pv 8)) po_none) (pe_slice (r := rSlL K) sl_list (pv 6) po_none (po_some (pv 8)))) po_none (po_some pe_int)) (pe_lst (pa_cons (pe_tup pa_nil) (pa_cons (pe_tupRg rfl (by rfl) T.g_tuple (prg_1 (by rfl) T.g_range (pv 2))) pa_nil))))) (pg_name (i := 9) nd rfl (Or.inr rfl)) (pss_one (ps_if (pt_not (pt_val (pe_callB (cr_all rfl) (by rfl) T.g_all (by decide +kernel) (pa_cons (pe_lc (own := [("count", 12)]) (g := gName 12) (tt := tYes) rfl nd (pi_range1 rfl T.g_range (pa_cons (pe_op op_add (pv 2) pe_int) pa_nil)) (blkOk_by (own := [("count", 12)]) (N := ["script", "seed", "many", "wide", "span", "row", "some", "size", "start", "places", "key", "one", "count"]) (sc := defScope s_law) (by decide +kernel)) (fun _ _ _ _ _ => pg_name (i := 12) nd rfl (Or.inl rfl)) (fun _ _ _ _ _ => pts_nil) (fun _ _ _ _ _ => (pe_call (ok_lrt T) (hr.mono (by decide)) (by rfl) T.m__law_right T.F__law_right.kp (b_lrt T) .nil pass0 (pa_cons (pv 5) (pa_cons (pv 3) (pa_cons (pv 12) (pa_cons (pv 9) pa_nil))))))) pa_nil)))) (pss_one (ps_ret pe_bl)) pss_nil)))
      (pss_one (ps_ret pe_bl)))))))))), ?_⟩
    refine ⟨fun σ' H' => ∃ r1 : Int, σ' = [some (.ref a), some (.int r1), none, none, none, none, none, none, none, none, none, none, none] ∧ Same H H', ?_, ?_⟩
    · exact ⟨_, rfl, a, ns, 0, rfl, ha, h63, by omega, fun H1 r s1 => .inl ⟨_, rfl, r, rfl, s1⟩⟩
    rintro σ' H1 ⟨r1, rfl, s1⟩
    refine ⟨fun σ' H' => ∃ (n w : Nat) (sp : Int), σ' = [some (.ref a), some (.int r1), some (.int n), some (.int w), some (.int sp), none, none, none, none, none, none, none, none] ∧ Same H1 H' ∧ (1 ≤ n ∧ n ≤ 4) ∧ (1 ≤ w ∧ w ≤ 4) ∧ (3 ≤ sp ∧ sp ≤ 1000000), ?_, ?_⟩
    · have a0 := Int.emod_nonneg r1 (show (4 : Int) ≠ 0 by decide)
      have a1 := Int.emod_lt_of_pos r1 (show (0 : Int) < 4 by decide)
      have b0 := Int.emod_nonneg (r1 / 4) (show (4 : Int) ≠ 0 by decide)
      have b1 := Int.emod_lt_of_pos (r1 / 4) (show (0 : Int) < 4 by decide)
      have c0 := Int.emod_nonneg (r1 / 16) (show (4 : Int) ≠ 0 by decide)
      have c1 := Int.emod_lt_of_pos (r1 / 16) (show (0 : Int) < 4 by decide)
      obtain ⟨n, hn⟩ : ∃ n : Nat, 1 + r1 % 4 = (n : Int) := ⟨(1 + r1 % 4).toNat, (Int.toNat_of_nonneg (by omega)).symm⟩
      obtain ⟨w, hw⟩ : ∃ w : Nat, 1 + r1 / 4 % 4 = (w : Int) := ⟨(1 + r1 / 4 % 4).toNat, (Int.toNat_of_nonneg (by omega)).symm⟩
      obtain ⟨sp, hsp1, hsp2, hsp3⟩ : ∃ sp : Int, atI [V.int 3, V.int 6, V.int 20, V.int ((10 : Int) ^ (6 : Int).toNat)] (r1 / 16 % 4) = some (V.int sp) ∧ 3 ≤ sp ∧ sp ≤ 1000000 := by
        have : r1 / 16 % 4 = 0 ∨ r1 / 16 % 4 = 1 ∨ r1 / 16 % 4 = 2 ∨ r1 / 16 % 4 = 3 := by omega
        rcases this with h | h | h | h
        · rw [h]
          exact ⟨3, rfl, by decide, by decide⟩
        · rw [h]
          exact ⟨6, rfl, by decide, by decide⟩
        · rw [h]
          exact ⟨20, rfl, by decide, by decide⟩
        · rw [h]
          exact ⟨(10 : Int) ^ (6 : Int).toNat, rfl, by decide, by decide⟩
      refine ⟨_, rfl, .inl ⟨_, rfl, _, _, rfl, rfl, by show (0 : Int) < 4; decide, _, _, rfl, rfl, _, rfl, _, _, rfl, rfl, ⟨by decide, by decide⟩, .inl ⟨_, rfl, _, _, rfl, rfl, by show (0 : Int) < 4; decide, _, _, rfl, rfl, ?_⟩⟩⟩
      refine ⟨_, _, rfl, rfl, ⟨by decide, by decide, by decide⟩, by show 4 ≤ sizeLine; decide, fun tt ntt => ?_⟩
      refine ⟨_, rfl, _, _, rfl, rfl, ⟨by decide, by decide⟩, .inl ⟨_, rfl, _, _, rfl, rfl, by show (0 : Int) < 4; decide, tt, _, _, V.int sp, rfl, rfl, SqT.of upd_same, hsp1, ?_⟩⟩
      refine ⟨by show 3 ≤ sizeLine; decide, fun t3 nt3 => ?_⟩
      refine ⟨_, _, rfl, SqT.of upd_same, rfl, _, _, rfl, _, _, rfl, _, _, rfl, rfl, n, w, sp, ?_, (Same.up ntt).trans (Same.up nt3), by omega, by omega, hsp2, hsp3⟩
      show [some (V.ref a), some (V.int r1), some (V.int (1 + r1 % 4)), some (V.int (1 + r1 / 4 % 4)), some (V.int sp), none, none, none, none, none, none, none, none] = _
      rw [hn, hw]
    rintro σ' H2 ⟨n, w1, sp, rfl, s2, hn, hw, hsp⟩
    refine ⟨fun σ' H' => ∃ (q5 : Addr) (ks : List Int), σ' = [some (.ref a), some (.int r1), some (.int n), some (.int w1), some (.int sp), some (.ref q5), none, none, none, none, none, none, none] ∧ Same H2 H' ∧ H' q5 = some (.tup (ks.map V.int)) ∧ GrowH w1 n ks, ?_, ?_⟩
    · exact ⟨_, rfl, _, rfl, _, rfl, _, rfl, a, ns, 1, n, w1, sp, rfl, LamX.ExtN.sqL (fun b o e _ => (s1.trans s2) b o e) ha, h63, by omega, by omega, hw, hsp, fun H3 q5 ks s3 e5 gh => ⟨q5, ks, rfl, s3, e5, gh⟩⟩
    rintro σ' H3 ⟨q5, ks0, rfl, s3, e5, gh⟩
    refine ⟨fun σ' H' => ∃ (q5 : Addr) (ks : List Int) (x10 : Option V), σ' = [some (.ref a), some (.int r1), some (.int n), some (.int w1), some (.int sp), some (.ref q5), none, none, none, none, x10, none, none] ∧ Same H3 H' ∧ H' q5 = some (.tup (ks.map V.int)) ∧ ks.length = n ∧ HeapL n w1 ks ∧ (∀ z ∈ ks, -1000000000 ≤ z ∧ z ≤ 1000000000), ?_, ?_⟩
    · have hn1 : 1 ≤ ks0.length := by rw [gh.len]; exact hn.1
      refine ⟨_, rfl, _, _, rfl, rfl, ⟨by decide, by decide⟩, .inl ⟨_, rfl, _, _, rfl, rfl, by show (0 : Int) < 8; decide, ?_⟩⟩
      by_cases h8 : r1 / 64 % 8 = 0
      · refine ⟨rfl, _, rfl, ite_b (c := true) (decide_eq_true (congrArg V.int h8)) (iteT ?_)⟩
        refine ⟨fun σ' H' => ∃ (q5 : Addr) (ks1 : List Int) (x10 : Option V), σ' = [some (.ref a), some (.int r1), some (.int n), some (.int w1), some (.int sp), some (.ref q5), none, none, none, none, x10, none, none] ∧ Same H3 H' ∧ H' q5 = some (.tup ((-1000000000 :: ks1).map V.int)) ∧ ks1.length + 1 = n ∧ (∀ z ∈ ks1, -1000000000 ≤ z ∧ z ≤ 1000000000), ?_, ?_⟩
        · refine ⟨_, _, rfl, rfl, ⟨by decide, by decide, by decide⟩, _, rfl, by show 1 ≤ sizeLine; decide, fun t1 nt1 => ?_⟩
          have e9 : (10 : Int) ^ ((9 : Int).toNat) = 1000000000 := by decide
          have et1 : upd H3 t1 (.tup [V.int (-(10 : Int) ^ (9 : Int).toNat)]) t1 = some (.tup ([(-1000000000 : Int)].map V.int)) := by rw [upd_same, e9]; rfl
          have st1 := Same.up (o := .tup [V.int (-(10 : Int) ^ (9 : Int).toNat)]) nt1
          refine ⟨_, rfl, _, rfl, _, rfl, _, rfl, ?_⟩
          refine slTup (st1 _ _ e5) fun H32 p1 sp1 ep1 => ?_
          rw [cut_mid (by rw [List.length_map]; exact hn1), ← List.map_drop, ← List.map_take, List.length_map] at ep1
          have hml : ((ks0.drop 1).take (ks0.length - 2)).length = n - 2 := by rw [List.length_take, List.length_drop, gh.len]; omega
          have hmb : ∀ z ∈ (ks0.drop 1).take (ks0.length - 2), -400000 ≤ z ∧ z ≤ 600000 * (n : Int) := fun z hz => gh.bd z (List.mem_of_mem_drop (List.mem_of_mem_take hz))
          generalize (ks0.drop 1).take (ks0.length - 2) = ms at ep1 hml hmb
          refine ⟨p1, rfl, ⟨_, SqT.of ep1⟩, fun D nD => ?_⟩
          refine lc_it (walk_tup (xs := ms.map V.int)) (fun i H' => Acc H32 D (((ms.take i).map fun k => if (0 : Int) > k then 0 else k).map V.int) H') (Acc.start nD) (fun i H' _ ac => SqT.of (ac.s _ _ ep1)) ?_ ?_
          · rintro i y Ho H4 hi ac ⟨rfl, hy⟩
            obtain ⟨hi2, rfl⟩ := ints_at hy
            refine ⟨rfl, iteT (B := Acc H32 D (((ms.take (i + 1)).map fun k => if (0 : Int) > k then 0 else k).map V.int) H4) ⟨_, rfl, _, _, rfl, _, ac.a, by rw [List.length_map, List.length_map, List.length_take, sizeLine_eq]; omega, ?_⟩⟩
            rw [List.take_succ_eq_append_getElem hi2, List.map_append, List.map_append]
            exact ac.push
          · intro H4 ac
            rw [List.length_map, List.take_length] at ac
            have hxl : (ms.map fun k => if (0 : Int) > k then 0 else k).length = n - 2 := by rw [List.length_map, hml]
            have hxb : ∀ z ∈ ms.map fun k => if (0 : Int) > k then 0 else k, -1000000000 ≤ z ∧ z ≤ 1000000000 := fun z hz => by
              obtain ⟨k, hk, rfl⟩ := List.mem_map.mp hz
              have := hmb k hk
              split <;> omega
            generalize (ms.map fun k => if (0 : Int) > k then 0 else k) = xs at ac hxl hxb
            unfold tNil
            refine tupK (.inl ac.a) fun H5 p2 s5 ep2 => ?_
            have s35 := st1.trans (sp1.trans (ac.s.trans s5))
            refine catInt ((sp1.trans (ac.s.trans s5)) _ _ et1) ep2 (by rw [hxl]; show 1 + _ ≤ 1000; omega) fun H6 p3 s6 ep3 => ?_
            by_cases hn2 : 1 < n
            · refine ⟨_, rfl, _, _, rfl, rfl, _, rfl, ite_b (c := true) (decide_eq_true (by omega)) (iteT ?_)⟩
              refine ⟨_, _, rfl, rfl, ⟨by decide, by decide, by decide⟩, by show 1 ≤ sizeLine; decide, fun t2 nt2 => ?_⟩
              have et2 : upd H6 t2 (.tup [V.int ((10 : Int) ^ (9 : Int).toNat)]) t2 = some (.tup ([(1000000000 : Int)].map V.int)) := by rw [upd_same, e9]; rfl
              have st2 := Same.up (o := .tup [V.int ((10 : Int) ^ (9 : Int).toNat)]) nt2
              refine catInt (st2 _ _ ep3) et2 (by rw [List.length_append, hxl]; show 1 + _ + 1 ≤ 1000; omega) fun H7 p4 s7 ep4 => ?_
              refine ⟨p4, xs ++ [1000000000], none, rfl, s35.trans (s6.trans (st2.trans s7)), by rw [List.append_assoc] at ep4; exact ep4, by rw [List.length_append, hxl]; show _ + 1 + 1 = _; omega, fun z hz => ?_⟩
              rcases List.mem_append.mp hz with hz | hz
              · exact hxb z hz
              · rw [List.mem_singleton.mp hz]
                exact ⟨by decide, by decide⟩
            · refine ⟨_, rfl, _, _, rfl, rfl, _, rfl, ite_b (c := false) (decide_eq_false (by omega)) (iteF ?_)⟩
              refine ⟨by show 0 ≤ sizeLine; decide, fun t2 nt2 => ?_⟩
              have et2 : upd H6 t2 (.tup []) t2 = some (.tup (([] : List Int).map V.int)) := upd_same
              have st2 := Same.up (o := .tup []) nt2
              refine catInt (st2 _ _ ep3) et2 (by rw [List.length_append, hxl]; show 1 + _ + 0 ≤ 1000; omega) fun H7 p4 s7 ep4 => ?_
              rw [List.append_nil] at ep4
              exact ⟨p4, xs, none, rfl, s35.trans (s6.trans (st2.trans s7)), ep4, by rw [hxl]; omega, hxb⟩
        rintro σ' H4 ⟨q6, ks1, x10, rfl, s4, e6, hl1, hb1⟩
        refine ⟨_, rfl, q6, _, 0, V.int (-1000000000), rfl, rfl, SqT.of e6, atI_nat (j := 0) rfl, by show 1 ≤ sizeLine; decide, fun u nu => ?_⟩
        unfold tNoPart
        refine ⟨_, rfl, _, rfl, ?_⟩
        have e6u := (Same.up (o := .lst [V.int (-1000000000)]) nu) _ _ e6
        refine slTup e6u fun H5 p1 s5 ep1 => ?_
        rw [show (some (1 : Int)) = some ((1 : Nat) : Int) from rfl, cutv_from] at ep1
        refine ⟨p1, ks1, rfl, SqT.of ep1, fun ks2 p2 hpm hasc np2 => ?_⟩
        refine ⟨u, p2, [V.int (-1000000000)], ks2.map V.int, rfl, rfl, (Same.up np2) _ _ (s5 _ _ upd_same), upd_same, by rw [List.length_map, hpm.length_eq, sizeLine_eq]; show 1 + _ ≤ _; omega, fun r nr => ?_⟩
        unfold tNil
        refine tupK (.inl upd_same) fun H6 p3 s6 ep3 => ?_
        have hl2 := hpm.length_eq
        exact ⟨p3, -1000000000 :: ks2, x10, rfl, s4.trans ((Same.up nu).trans (s5.trans ((Same.up np2).trans ((Same.up nr).trans s6)))), ep3, by show ks2.length + 1 = n; omega, heap_asc (by show ks2.length + 1 = n; omega) (fun z hz => (hb1 z (hpm.mem_iff.mp hz)).1) hasc, fun z hz => by
          rcases List.mem_cons.mp hz with rfl | hz
          · exact ⟨by decide, by decide⟩
          · exact hb1 z (hpm.mem_iff.mp hz)⟩
      · refine ⟨rfl, _, rfl, ite_b (c := false) (decide_eq_false fun z => h8 (by injection z)) (iteF ?_)⟩
        exact ⟨q5, ks0, none, rfl, Same.refl _, e5, gh.len, gh.hp, fun z hz => ⟨by have := (gh.bd z hz).1; omega, by have := (gh.bd z hz).2; omega⟩⟩
    rintro σ' H4 ⟨q6, ks, x10, rfl, s4, e6, hkl, hh, hbd⟩
    refine ⟨fun σ' H' => ∃ (q7 : Addr), σ' = [some (.ref a), some (.int r1), some (.int n), some (.int w1), some (.int sp), some (.ref q6), some (.ref q7), none, none, none, x10, none, none] ∧ Same H4 H' ∧ H' q7 = some (.lst []), ?_, ?_⟩
    · exact ⟨by show 0 ≤ sizeLine; decide, fun q7 n7 => ⟨q7, rfl, Same.up n7, upd_same⟩⟩
    rintro σ' H5 ⟨q7, rfl, s5, e7⟩
    have hp16 : (2 : Nat) ^ n ≤ 2 ^ 4 := Nat.pow_le_pow_right (by decide) hn.2
    refine ⟨fun σ' H' => ∃ (q7 : Addr) (xs : List V) (x7 : Option V), σ' = [some (.ref a), some (.int r1), some (.int n), some (.int w1), some (.int sp), some (.ref q6), some (.ref q7), x7, none, none, x10, none, none] ∧ Same H5 H' ∧ H' q7 = some (.lst xs) ∧ xs.length ≤ 80 ∧ xs ≠ [] ∧ ∀ x ∈ xs, PSt n H' x, ?_, ?_⟩
    · refine ⟨_, rfl, _, _, rfl, rfl, ((n + 1 : Nat) : Int), congrArg (fun z => [V.int z]) (by show (n : Int) + 1 = _; omega), by omega, by omega, ?_⟩
      rw [show (((n + 1 : Nat) : Int)).toNat = n + 1 from rfl]
      refine for_it (walk_range (lo := 0) (n := n + 1)) (fun i σ' H' => ∃ (q7 : Addr) (xs : List V) (x7 : Option V), σ' = [some (.ref a), some (.int r1), some (.int n), some (.int w1), some (.int sp), some (.ref q6), some (.ref q7), x7, none, none, x10, none, none] ∧ Same H5 H' ∧ H' q7 = some (.lst xs) ∧ xs.length ≤ i * 16 ∧ (1 ≤ i → xs ≠ []) ∧ ∀ x ∈ xs, PSt n H' x)
        ⟨q7, [], none, rfl, Same.refl _, e7, Nat.zero_le _, fun h => by omega, fun x hx => (nomatch hx)⟩ (fun _ _ _ _ _ => trivial) ?_ (fun σ' H' ⟨q7, xs, x7, e, s, e7, l, ne, z⟩ => ⟨q7, xs, x7, e, s, e7, by omega, ne (by omega), z⟩)
      rintro i y σ' Ho H6 hi ⟨q8, xs, x7, rfl, s6, e8, l8, ne8, z8⟩ ⟨rfl, ey⟩
      obtain rfl : y = V.int (i : Nat) := by
        rw [ey]
        show V.int (0 + (i : Int)) = _
        rw [Int.zero_add]
      refine ⟨_, rfl, _, rfl, _, rfl, RgOk.of_le (by omega) (by omega) (by omega) (by omega), fun l nl => ?_⟩
      refine ⟨_, rfl, l, n, i, rfl, by rw [upd_same, rg_nv], by omega, fun H7 q9 ys0 s7 e9 l9 ne9 z9 => ?_⟩
      refine ⟨q9, rfl, ⟨_, SqL.of e9⟩, fun D nD => ?_⟩
      refine lc_it (walk_list (xs := ys0)) (fun m H' => Bag (PSt n) H7 D m H' ∧ (1 ≤ m → ∀ ys, H' D = some (.lst ys) → ys ≠ [])) ⟨⟨Same.up nD, nD, [], upd_same, Nat.le_refl _, fun y hy => (nomatch hy)⟩, fun h => by omega⟩ (fun m H' _ bg => SqL.of (bg.1.s _ _ e9)) ?_ ?_
      · rintro m y Hp H8 hm ⟨bg, nn⟩ ⟨rfl, hy⟩
        obtain ⟨t, S, rfl, et, hS, hS2, hS3⟩ := (z9 y (List.mem_of_getElem? hy)).same bg.s
        have hm' : m < ys0.length := hm
        refine ⟨rfl, iteT (B := Bag (PSt n) H7 D (m + 1) H8 ∧ (1 ≤ m + 1 → ∀ ys, H8 D = some (.lst ys) → ys ≠ [])) ⟨_, rfl, ?_⟩⟩
        unfold tNil
        refine tupK (.inl et) fun H9 p s9 ep => ?_
        obtain ⟨acc, ea, la, bg3⟩ := (bg.pSame s9).pPush (x := .ref p) ⟨p, S, rfl, ep, ⟨hS, hS2, by omega⟩⟩ (by omega)
        refine ⟨acc, ea, la, bg3, fun _ ys ey z => ?_⟩
        rw [z, upd_same] at ey
        have ey : acc ++ [V.ref p] = [] := by injection ey with ey; injection ey
        exact List.append_ne_nil_of_right_ne_nil acc (by intro k; cases k) ey
      · rintro H8 ⟨bg, nn⟩
        obtain ⟨ys, ey, ly, zy⟩ := bg.a
        have s68 := (Same.up (o := .lst (rgV 0 (n : Int))) nl).trans (s7.trans bg.s)
        refine ⟨q8, D, xs, ys, rfl, rfl, s68 _ _ e8, ey, by rw [sizeLine_eq]; omega, fun r nr => ?_⟩
        refine ⟨r, xs ++ ys, _, rfl, s6.trans (s68.trans (Same.up nr)), upd_same, by rw [List.length_append, Nat.succ_mul]; omega, fun _ z => ?_, fun x hx => ?_⟩
        · by_cases hi0 : i = 0
          · have hne := ne9 hi0
            exact nn (List.length_pos_iff.mpr hne) ys ey (List.append_eq_nil_iff.mp z).2
          · exact ne8 (by omega) (List.append_eq_nil_iff.mp z).1
        · rcases List.mem_append.mp hx with hx | hx
          · exact (z8 x hx).same (s68.trans (Same.up nr))
          · exact (zy x hx).2.same (Same.up nr)
    rintro σ' H6 ⟨q7, xs, x7, rfl, s6, e7, l7, ne7, z7⟩
    refine ⟨fun σ' H' => ∃ (st : Nat), σ' = [some (.ref a), some (.int r1), some (.int n), some (.int w1), some (.int sp), some (.ref q6), some (.ref q7), x7, some (.int st), none, x10, none, none] ∧ Same H6 H', ?_, ?_⟩
    · have hpos := List.length_pos_iff.mpr ne7
      have a0 := Int.emod_nonneg (r1 / 512) (show (xs.length : Int) ≠ 0 by omega)
      refine ⟨_, rfl, _, _, rfl, rfl, ⟨by decide, by decide⟩, .inl ⟨_, rfl, _, rfl, q7, xs, rfl, .inl (SqL.of e7), _, _, rfl, rfl, by show (0 : Int) < (xs.length : Int); omega, ?_⟩⟩
      refine ⟨(r1 / 512 % (xs.length : Int)).toNat, ?_, Same.refl _⟩
      rw [Int.toNat_of_nonneg a0]
      rfl
    rintro σ' H7 ⟨st, rfl, s7⟩
    have e77 := s7 _ _ e7
    have z77 : ∀ x ∈ xs, PSt n H7 x := fun x hx => (z7 x hx).same s7
    refine ⟨fun σ' H' => ∃ x9 : Option V, σ' = [some (.ref a), some (.int r1), some (.int n), some (.int w1), some (.int sp), some (.ref q6), some (.ref q7), x7, some (.int st), x9, x10, none, none] ∧ Same H7 H', ?_, ?_⟩
    · unfold tNoPart
      refine ⟨_, rfl, _, rfl, _, rfl, ?_⟩
      refine slLs e77 fun H8 p1 s8 ep1 => ?_
      refine ⟨_, rfl, _, rfl, _, rfl, ?_⟩
      refine slLs (s8 _ _ e77) fun H9 p2 s9 ep2 => ?_
      refine catLs (s9 _ _ ep1) ep2 (by have h1 := cut_lenV xs (some (st : Int)) none; have h2 := cut_lenV xs none (some (st : Int)); omega) fun H10 p3 s10 ep3 => ?_
      refine ⟨_, rfl, ?_⟩
      refine slLs ep3 fun H11 p4 s11 ep4 => ?_
      refine ⟨by show 0 ≤ sizeLine; decide, fun t1 nt1 => ⟨_, rfl, _, rfl, RgOk.of_le (by omega) (by omega) (by omega) (by omega), fun t2 nt2 => ⟨by show 2 ≤ sizeLine; decide, fun p5 n5 => ?_⟩⟩⟩
      have et1 : upd H11 t1 (.tup []) t1 = some (.tup []) := upd_same
      have st1 := Same.up (o := .tup []) nt1
      have et2 : upd (upd H11 t1 (.tup [])) t2 (.tup (rgV 0 (n : Int))) t2 = some (.tup (nv (List.range n))) := by rw [upd_same, rg_nv]
      have st2 := Same.up (o := .tup (rgV 0 (n : Int))) nt2
      have st5 := Same.up (o := .lst [V.ref t1, V.ref t2]) n5
      refine catLs ((st1.trans (st2.trans st5)) _ _ ep4) upd_same (by have h1 := cut_lenV xs (some (st : Int)) none; have h2 := cut_lenV xs none (some (st : Int)); have h3 := cut_lenV (cutV xs (some (st : Int)) none ++ cutV xs none (some (st : Int))) none (some 6); rw [List.length_append] at h3; show _ + 2 ≤ _; omega) fun H12 p6 s12 ep6 => ?_
      have s711 := s8.trans (s9.trans (s10.trans s11))
      have s1112 := st1.trans (st2.trans (st5.trans s12))
      have z12 : ∀ x ∈ cutV (cutV xs (some (st : Int)) none ++ cutV xs none (some (st : Int))) none (some 6) ++ [V.ref t1, V.ref t2], PSt n H12 x := fun x hx => by
        rcases List.mem_append.mp hx with hx | hx
        · rcases List.mem_append.mp (cut_mem hx) with hx | hx
          · exact (z77 x (cut_mem hx)).same (s711.trans s1112)
          · exact (z77 x (cut_mem hx)).same (s711.trans s1112)
        · rcases List.mem_cons.mp hx with rfl | hx
          · exact PSt.nil n ((st2.trans (st5.trans s12)) _ _ et1)
          · rw [List.mem_singleton.mp hx]
            exact PSt.all (by omega) ((st5.trans s12) _ _ et2)
      generalize cutV (cutV xs (some (st : Int)) none ++ cutV xs none (some (st : Int))) none (some 6) ++ [V.ref t1, V.ref t2] = ys at ep6 z12
      have s712 := s711.trans s1112
      have e612 := s712 _ _ (((s5.trans s6).trans s7) _ _ e6)
      refine ⟨p6, rfl, ⟨_, SqL.of ep6⟩, ?_⟩
      refine for_it (walk_list (xs := ys)) (fun i σ' H' => ∃ x9 : Option V, σ' = [some (.ref a), some (.int r1), some (.int n), some (.int w1), some (.int sp), some (.ref q6), some (.ref q7), x7, some (.int st), x9, x10, none, none] ∧ Same H12 H')
        ⟨none, rfl, Same.refl _⟩ (fun i σ' H' _ ⟨_, _, s⟩ => SqL.of (s _ _ ep6)) ?_ (fun σ' H' ⟨x9, e, s⟩ => ⟨x9, e, s712.trans s⟩)
      rintro i y σ' Ho H13 hi ⟨x9, rfl, s13⟩ ⟨rfl, hy⟩
      obtain ⟨t, S, rfl, et, hS⟩ := (z12 y (List.mem_of_getElem? hy)).same s13
      have e613 := s13 _ _ e612
      refine ⟨_, rfl, _, _, rfl, rfl, ((n + 1 : Nat) : Int), congrArg (fun z => [V.int z]) (by show (n : Int) + 1 = _; omega), by omega, by omega, fun D nD => ?_⟩
      rw [show (((n + 1 : Nat) : Int)).toNat = n + 1 from rfl]
      refine lc_it (walk_range (lo := 0) (n := n + 1)) (fun i H' => Acc H13 D (List.replicate i (V.bl true)) H') (Acc.start nD) (fun _ _ _ _ => trivial) ?_ ?_
      · rintro c y Ho H14 hc ac ⟨rfl, ey⟩
        obtain rfl : y = V.int (c : Nat) := by
          rw [ey]
          show V.int (0 + (c : Int)) = _
          rw [Int.zero_add]
        refine ⟨rfl, iteT (B := Acc H13 D (List.replicate (c + 1) (V.bl true)) H14) ?_⟩
        refine ⟨_, rfl, _, rfl, _, rfl, _, rfl, q6, w1, c, t, ks, S, rfl, ⟨hw, ⟨.inr (ac.s _ _ e613), by omega, hbd⟩, heap_fault hkl hh, by rw [hkl]; omega⟩, ac.s _ _ e613, by omega, ac.s _ _ et, by rw [hkl]; exact hS, fun H15 s15 => ?_⟩
        refine ⟨_, s15 _ _ ac.a, by rw [List.length_replicate, sizeLine_eq]; omega, ?_⟩
        rw [show List.replicate (c + 1) (V.bl true) = List.replicate c (V.bl true) ++ [V.bl true] from List.replicate_succ']
        exact (ac.same s15).push
      · intro H14 ac
        refine ⟨D, List.replicate (n + 1) true, rfl, SqL.of (by rw [ac.a, List.map_replicate]), _, rfl, ?_⟩
        rw [show (List.replicate (n + 1) true).all id = true by rw [List.all_eq_true]; intro x hx; rw [(List.mem_replicate.mp hx).2]; rfl]
        exact iteF ⟨_, rfl, s13.trans ac.s⟩
    rintro σ' H8 ⟨x9, rfl, s8⟩
    exact q _
theorem b_law (T : Tx K mg A) : L2.Binds K A.d_law ["script"] [] := T.F_law.binds fun _ _ _ _ _ _ us hl => match us, hl with | [_], _ => rfl

end
end Tw

set_option Elab.async false
set_option linter.all false
set_option maxRecDepth 100000
set_option maxHeartbeats 2000000
namespace Tw
open PySem PySem.Spec PyProof.Rows L2
theorem kit_no {K : PySem.W.Frag} {C : Addr} {t : String} (hc : PySem.W.isClsIn K C = true) (ht : PySem.W.typeIn K (.ref C) = some (.type "type")) (hs : PySem.W.subIn K (.type t) (.ref C) = some false) : PySem.W.kitOne K (.type t) (.ref C) = some false := by
  unfold PySem.W.kitOne PySem.W.kitCls
  have h1 : (PySem.W.clsIn K C).isSome = true := hc
  simp only [h1, ht, hs, beq_self_eq_true, Bool.and_self, if_true]
  rfl
theorem kit_no2 {K : PySem.W.Frag} {C D : Addr} (hc : PySem.W.isClsIn K C = true) (ht : PySem.W.typeIn K (.ref C) = some (.type "type")) (hs : PySem.W.subIn K (.ref D) (.ref C) = some false) (hn : (D == C) = false) : PySem.W.kitOne K (.ref D) (.ref C) = some false := by
  unfold PySem.W.kitOne PySem.W.kitCls
  have h1 : (PySem.W.clsIn K C).isSome = true := hc
  have h2 : (Value.ref D == Value.ref C) = false := beq_eq_false_iff_ne.mpr fun z => by
    injection z with z
    exact (beq_eq_false_iff_ne.mp hn) z
  rw [h2, if_neg Bool.false_ne_true]
  simp only [h1, ht, hs, beq_self_eq_true, Bool.and_self, if_true]
theorem all_mk {l : PySem.W.OpenLaw} {w : World} {K : PySem.W.Frag} {h : Heap} {mg : Str → Option Value} (X : K.In h) (G : h.Ns mainGlobals mg) {fa C CG CU po D_t___init__ D_t_of D_is_heap D_faults D_g_shows D_u_shows D_judge_places D_does_settle f_is_integer f_is_integer_from f_is_key f_check_arms f_check_many f_check_place f_row_of f_is_set_of_places f_t___init__ f_t_of f_t___len__ f_t___iter__ f_t___getitem__ f_t_parent f_is_heap f_faults f_heap_of f_check_count f_g___init__ f_g___eq__ f_g_shows f_u___init__ f_u___eq__ f_u_shows f_judge_places f_does_settle f_counted_heap_of f_heap_of_places f_row_with_least f_row_with_greatest f__law_number f__law_heap f__law_sets f__law_rows f__law_changed f__law_due f__law_right f_law : Addr} {od_is_integer an_is_integer : Option Addr} {sl_is_integer : Array (Option Value)} {oc_is_integer kV_is_integer dc_is_integer pm_is_integer cd_is_integer ct_is_integer : Value} {od_is_integer_from an_is_integer_from : Option Addr} {sl_is_integer_from : Array (Option Value)} {oc_is_integer_from kV_is_integer_from dc_is_integer_from pm_is_integer_from cd_is_integer_from ct_is_integer_from : Value} {od_is_key an_is_key : Option Addr} {sl_is_key : Array (Option Value)} {oc_is_key kV_is_key dc_is_key pm_is_key cd_is_key ct_is_key : Value} {od_check_arms an_check_arms : Option Addr} {sl_check_arms : Array (Option Value)} {oc_check_arms kV_check_arms dc_check_arms pm_check_arms cd_check_arms ct_check_arms : Value} {od_check_many an_check_many : Option Addr} {sl_check_many : Array (Option Value)} {oc_check_many kV_check_many dc_check_many pm_check_many cd_check_many ct_check_many : Value} {od_check_place an_check_place : Option Addr} {sl_check_place : Array (Option Value)} {oc_check_place kV_check_place dc_check_place pm_check_place cd_check_place ct_check_place : Value} {od_row_of an_row_of : Option Addr} {sl_row_of : Array (Option Value)} {oc_row_of kV_row_of dc_row_of pm_row_of cd_row_of ct_row_of : Value} {od_is_set_of_places an_is_set_of_places : Option Addr} {sl_is_set_of_places : Array (Option Value)} {oc_is_set_of_places kV_is_set_of_places dc_is_set_of_places pm_is_set_of_places cd_is_set_of_places ct_is_set_of_places : Value} {od_t___init__ an_t___init__ : Option Addr} {sl_t___init__ : Array (Option Value)} {oc_t___init__  dc_t___init__ pm_t___init__ cd_t___init__ ct_t___init__ : Value} {od_t_of an_t_of : Option Addr} {sl_t_of : Array (Option Value)} {oc_t_of  dc_t_of pm_t_of cd_t_of ct_t_of : Value} {od_t___len__ an_t___len__ : Option Addr} {sl_t___len__ : Array (Option Value)} {oc_t___len__ kV_t___len__ dc_t___len__ pm_t___len__ cd_t___len__ ct_t___len__ : Value} {od_t___iter__ an_t___iter__ : Option Addr} {sl_t___iter__ : Array (Option Value)} {oc_t___iter__ kV_t___iter__ dc_t___iter__ pm_t___iter__ cd_t___iter__ ct_t___iter__ : Value} {od_t___getitem__ an_t___getitem__ : Option Addr} {sl_t___getitem__ : Array (Option Value)} {oc_t___getitem__ kV_t___getitem__ dc_t___getitem__ pm_t___getitem__ cd_t___getitem__ ct_t___getitem__ : Value} {od_t_parent an_t_parent : Option Addr} {sl_t_parent : Array (Option Value)} {oc_t_parent kV_t_parent dc_t_parent pm_t_parent cd_t_parent ct_t_parent : Value} {od_is_heap an_is_heap : Option Addr} {sl_is_heap : Array (Option Value)} {oc_is_heap  dc_is_heap pm_is_heap cd_is_heap ct_is_heap : Value} {od_faults an_faults : Option Addr} {sl_faults : Array (Option Value)} {oc_faults  dc_faults pm_faults cd_faults ct_faults : Value} {od_heap_of an_heap_of : Option Addr} {sl_heap_of : Array (Option Value)} {oc_heap_of kV_heap_of dc_heap_of pm_heap_of cd_heap_of ct_heap_of : Value} {od_check_count an_check_count : Option Addr} {sl_check_count : Array (Option Value)} {oc_check_count kV_check_count dc_check_count pm_check_count cd_check_count ct_check_count : Value} {od_g___init__ an_g___init__ : Option Addr} {sl_g___init__ : Array (Option Value)} {oc_g___init__ kV_g___init__ dc_g___init__ pm_g___init__ cd_g___init__ ct_g___init__ : Value} {od_g___eq__ an_g___eq__ : Option Addr} {sl_g___eq__ : Array (Option Value)} {oc_g___eq__ kV_g___eq__ dc_g___eq__ pm_g___eq__ cd_g___eq__ ct_g___eq__ : Value} {od_g_shows an_g_shows : Option Addr} {sl_g_shows : Array (Option Value)} {oc_g_shows  dc_g_shows pm_g_shows cd_g_shows ct_g_shows : Value} {od_u___init__ an_u___init__ : Option Addr} {sl_u___init__ : Array (Option Value)} {oc_u___init__ kV_u___init__ dc_u___init__ pm_u___init__ cd_u___init__ ct_u___init__ : Value} {od_u___eq__ an_u___eq__ : Option Addr} {sl_u___eq__ : Array (Option Value)} {oc_u___eq__ kV_u___eq__ dc_u___eq__ pm_u___eq__ cd_u___eq__ ct_u___eq__ : Value} {od_u_shows an_u_shows : Option Addr} {sl_u_shows : Array (Option Value)} {oc_u_shows  dc_u_shows pm_u_shows cd_u_shows ct_u_shows : Value} {od_judge_places an_judge_places : Option Addr} {sl_judge_places : Array (Option Value)} {oc_judge_places  dc_judge_places pm_judge_places cd_judge_places ct_judge_places : Value} {od_does_settle an_does_settle : Option Addr} {sl_does_settle : Array (Option Value)} {oc_does_settle  dc_does_settle pm_does_settle cd_does_settle ct_does_settle : Value} {od_counted_heap_of an_counted_heap_of : Option Addr} {sl_counted_heap_of : Array (Option Value)} {oc_counted_heap_of kV_counted_heap_of dc_counted_heap_of pm_counted_heap_of cd_counted_heap_of ct_counted_heap_of : Value} {od_heap_of_places an_heap_of_places : Option Addr} {sl_heap_of_places : Array (Option Value)} {oc_heap_of_places kV_heap_of_places dc_heap_of_places pm_heap_of_places cd_heap_of_places ct_heap_of_places : Value} {od_row_with_least an_row_with_least : Option Addr} {sl_row_with_least : Array (Option Value)} {oc_row_with_least kV_row_with_least dc_row_with_least pm_row_with_least cd_row_with_least ct_row_with_least : Value} {od_row_with_greatest an_row_with_greatest : Option Addr} {sl_row_with_greatest : Array (Option Value)} {oc_row_with_greatest kV_row_with_greatest dc_row_with_greatest pm_row_with_greatest cd_row_with_greatest ct_row_with_greatest : Value} {od__law_number an__law_number : Option Addr} {sl__law_number : Array (Option Value)} {oc__law_number kV__law_number dc__law_number pm__law_number cd__law_number ct__law_number : Value} {od__law_heap an__law_heap : Option Addr} {sl__law_heap : Array (Option Value)} {oc__law_heap kV__law_heap dc__law_heap pm__law_heap cd__law_heap ct__law_heap : Value} {od__law_sets an__law_sets : Option Addr} {sl__law_sets : Array (Option Value)} {oc__law_sets kV__law_sets dc__law_sets pm__law_sets cd__law_sets ct__law_sets : Value} {od__law_rows an__law_rows : Option Addr} {sl__law_rows : Array (Option Value)} {oc__law_rows kV__law_rows dc__law_rows pm__law_rows cd__law_rows ct__law_rows : Value} {od__law_changed an__law_changed : Option Addr} {sl__law_changed : Array (Option Value)} {oc__law_changed kV__law_changed dc__law_changed pm__law_changed cd__law_changed ct__law_changed : Value} {od__law_due an__law_due : Option Addr} {sl__law_due : Array (Option Value)} {oc__law_due kV__law_due dc__law_due pm__law_due cd__law_due ct__law_due : Value} {od__law_right an__law_right : Option Addr} {sl__law_right : Array (Option Value)} {oc__law_right kV__law_right dc__law_right pm__law_right cd__law_right ct__law_right : Value} {od_law an_law : Option Addr} {sl_law : Array (Option Value)} {oc_law kV_law dc_law pm_law cd_law ct_law : Value}
    (hfa : mg "law" = some (.ref fa))
    (aC : PySem.W.nsIn K mainGlobals "Tree" = some (some (.ref C)))
    (aCG : PySem.W.nsIn K mainGlobals "Settled" = some (some (.ref CG)))
    (aCU : PySem.W.nsIn K mainGlobals "Unsettled" = some (some (.ref CU)))
    (a_is_integer : PySem.W.nsIn K mainGlobals "is_integer" = some (some (.ref f_is_integer)))
    (l_is_integer : K.lookup f_is_integer = some ⟨oc_is_integer, od_is_integer, .func (PySem.W.fnOf "is_integer" "is_integer" (defArgs s_is_integer) (defBody s_is_integer) (defScope s_is_integer) .none kV_is_integer dc_is_integer pm_is_integer an_is_integer cd_is_integer ct_is_integer), sl_is_integer⟩)
    (c_is_integer : PySem.W.codeIn K cd_is_integer "is_integer" = true)
    (k_is_integer : PySem.W.keepIn K (.ref f_is_integer) = true)
    (a_is_integer_from : PySem.W.nsIn K mainGlobals "is_integer_from" = some (some (.ref f_is_integer_from)))
    (l_is_integer_from : K.lookup f_is_integer_from = some ⟨oc_is_integer_from, od_is_integer_from, .func (PySem.W.fnOf "is_integer_from" "is_integer_from" (defArgs s_is_integer_from) (defBody s_is_integer_from) (defScope s_is_integer_from) .none kV_is_integer_from dc_is_integer_from pm_is_integer_from an_is_integer_from cd_is_integer_from ct_is_integer_from), sl_is_integer_from⟩)
    (c_is_integer_from : PySem.W.codeIn K cd_is_integer_from "is_integer_from" = true)
    (k_is_integer_from : PySem.W.keepIn K (.ref f_is_integer_from) = true)
    (a_is_key : PySem.W.nsIn K mainGlobals "is_key" = some (some (.ref f_is_key)))
    (l_is_key : K.lookup f_is_key = some ⟨oc_is_key, od_is_key, .func (PySem.W.fnOf "is_key" "is_key" (defArgs s_is_key) (defBody s_is_key) (defScope s_is_key) .none kV_is_key dc_is_key pm_is_key an_is_key cd_is_key ct_is_key), sl_is_key⟩)
    (c_is_key : PySem.W.codeIn K cd_is_key "is_key" = true)
    (k_is_key : PySem.W.keepIn K (.ref f_is_key) = true)
    (a_check_arms : PySem.W.nsIn K mainGlobals "check_arms" = some (some (.ref f_check_arms)))
    (l_check_arms : K.lookup f_check_arms = some ⟨oc_check_arms, od_check_arms, .func (PySem.W.fnOf "check_arms" "check_arms" (defArgs s_check_arms) (defBody s_check_arms) (defScope s_check_arms) .none kV_check_arms dc_check_arms pm_check_arms an_check_arms cd_check_arms ct_check_arms), sl_check_arms⟩)
    (c_check_arms : PySem.W.codeIn K cd_check_arms "check_arms" = true)
    (k_check_arms : PySem.W.keepIn K (.ref f_check_arms) = true)
    (a_check_many : PySem.W.nsIn K mainGlobals "check_many" = some (some (.ref f_check_many)))
    (l_check_many : K.lookup f_check_many = some ⟨oc_check_many, od_check_many, .func (PySem.W.fnOf "check_many" "check_many" (defArgs s_check_many) (defBody s_check_many) (defScope s_check_many) .none kV_check_many dc_check_many pm_check_many an_check_many cd_check_many ct_check_many), sl_check_many⟩)
    (c_check_many : PySem.W.codeIn K cd_check_many "check_many" = true)
    (k_check_many : PySem.W.keepIn K (.ref f_check_many) = true)
    (a_check_place : PySem.W.nsIn K mainGlobals "check_place" = some (some (.ref f_check_place)))
    (l_check_place : K.lookup f_check_place = some ⟨oc_check_place, od_check_place, .func (PySem.W.fnOf "check_place" "check_place" (defArgs s_check_place) (defBody s_check_place) (defScope s_check_place) .none kV_check_place dc_check_place pm_check_place an_check_place cd_check_place ct_check_place), sl_check_place⟩)
    (c_check_place : PySem.W.codeIn K cd_check_place "check_place" = true)
    (k_check_place : PySem.W.keepIn K (.ref f_check_place) = true)
    (a_row_of : PySem.W.nsIn K mainGlobals "row_of" = some (some (.ref f_row_of)))
    (l_row_of : K.lookup f_row_of = some ⟨oc_row_of, od_row_of, .func (PySem.W.fnOf "row_of" "row_of" (defArgs s_row_of) (defBody s_row_of) (defScope s_row_of) .none kV_row_of dc_row_of pm_row_of an_row_of cd_row_of ct_row_of), sl_row_of⟩)
    (c_row_of : PySem.W.codeIn K cd_row_of "row_of" = true)
    (k_row_of : PySem.W.keepIn K (.ref f_row_of) = true)
    (a_is_set_of_places : PySem.W.nsIn K mainGlobals "is_set_of_places" = some (some (.ref f_is_set_of_places)))
    (l_is_set_of_places : K.lookup f_is_set_of_places = some ⟨oc_is_set_of_places, od_is_set_of_places, .func (PySem.W.fnOf "is_set_of_places" "is_set_of_places" (defArgs s_is_set_of_places) (defBody s_is_set_of_places) (defScope s_is_set_of_places) .none kV_is_set_of_places dc_is_set_of_places pm_is_set_of_places an_is_set_of_places cd_is_set_of_places ct_is_set_of_places), sl_is_set_of_places⟩)
    (c_is_set_of_places : PySem.W.codeIn K cd_is_set_of_places "is_set_of_places" = true)
    (k_is_set_of_places : PySem.W.keepIn K (.ref f_is_set_of_places) = true)
    (a_t___init__ : PySem.W.findIn K (.ref C) "__init__" = some (some (.ref f_t___init__)))
    (i_t___init__ : PySem.W.isFn K (.ref f_t___init__) = true)
    (l_t___init__ : K.lookup f_t___init__ = some ⟨oc_t___init__, od_t___init__, .func (PySem.W.fnOf "__init__" "Tree.__init__" (defArgs s_t___init__) (defBody s_t___init__) (defScope s_t___init__) .none (.ref D_t___init__) dc_t___init__ pm_t___init__ an_t___init__ cd_t___init__ ct_t___init__), sl_t___init__⟩)
    (c_t___init__ : PySem.W.codeIn K cd_t___init__ "Tree.__init__" = true)
    (k_t___init__ : PySem.W.keepIn K (.ref f_t___init__) = true)
    {tk_t___init__ : Tok}
    (w_t___init__ : PySem.W.nsIn K D_t___init__ "arms" = some (some (.int 2 tk_t___init__)))
    (a_t_of : PySem.W.findCls K (.ref C) (.type "type") "of" = some (.get (.builtin "classmethod.__get__") (.ref po) .none (.ref C)))
    {rest_of : List Value}
    (r_t_of : PySem.W.recIn K po "classmethod" = some (.ref f_t_of :: rest_of))
    (n_t_of : PySem.W.fnIn K f_t_of = true)
    (l_t_of : K.lookup f_t_of = some ⟨oc_t_of, od_t_of, .func (PySem.W.fnOf "of" "Tree.of" (defArgs s_t_of) (defBody s_t_of) (defScope s_t_of) .none (.ref D_t_of) dc_t_of pm_t_of an_t_of cd_t_of ct_t_of), sl_t_of⟩)
    (c_t_of : PySem.W.codeIn K cd_t_of "Tree.of" = true)
    (k_t_of : PySem.W.keepIn K (.ref f_t_of) = true)
    {tk_t_of : Tok}
    (w_t_of : PySem.W.nsIn K D_t_of "arms" = some (some (.int 2 tk_t_of)))
    (a_t___len__ : PySem.W.findIn K (.ref C) "__len__" = some (some (.ref f_t___len__)))
    (i_t___len__ : PySem.W.isFn K (.ref f_t___len__) = true)
    (n_t___len__ : PySem.W.fnIn K f_t___len__ = true)
    (l_t___len__ : K.lookup f_t___len__ = some ⟨oc_t___len__, od_t___len__, .func (PySem.W.fnOf "__len__" "Tree.__len__" (defArgs s_t___len__) (defBody s_t___len__) (defScope s_t___len__) .none kV_t___len__ dc_t___len__ pm_t___len__ an_t___len__ cd_t___len__ ct_t___len__), sl_t___len__⟩)
    (c_t___len__ : PySem.W.codeIn K cd_t___len__ "Tree.__len__" = true)
    (k_t___len__ : PySem.W.keepIn K (.ref f_t___len__) = true)
    (a_t___iter__ : PySem.W.findIn K (.ref C) "__iter__" = some (some (.ref f_t___iter__)))
    (i_t___iter__ : PySem.W.isFn K (.ref f_t___iter__) = true)
    (n_t___iter__ : PySem.W.fnIn K f_t___iter__ = true)
    (l_t___iter__ : K.lookup f_t___iter__ = some ⟨oc_t___iter__, od_t___iter__, .func (PySem.W.fnOf "__iter__" "Tree.__iter__" (defArgs s_t___iter__) (defBody s_t___iter__) (defScope s_t___iter__) .none kV_t___iter__ dc_t___iter__ pm_t___iter__ an_t___iter__ cd_t___iter__ ct_t___iter__), sl_t___iter__⟩)
    (c_t___iter__ : PySem.W.codeIn K cd_t___iter__ "Tree.__iter__" = true)
    (k_t___iter__ : PySem.W.keepIn K (.ref f_t___iter__) = true)
    (a_t___getitem__ : PySem.W.findIn K (.ref C) "__getitem__" = some (some (.ref f_t___getitem__)))
    (i_t___getitem__ : PySem.W.isFn K (.ref f_t___getitem__) = true)
    (n_t___getitem__ : PySem.W.fnIn K f_t___getitem__ = true)
    (l_t___getitem__ : K.lookup f_t___getitem__ = some ⟨oc_t___getitem__, od_t___getitem__, .func (PySem.W.fnOf "__getitem__" "Tree.__getitem__" (defArgs s_t___getitem__) (defBody s_t___getitem__) (defScope s_t___getitem__) .none kV_t___getitem__ dc_t___getitem__ pm_t___getitem__ an_t___getitem__ cd_t___getitem__ ct_t___getitem__), sl_t___getitem__⟩)
    (c_t___getitem__ : PySem.W.codeIn K cd_t___getitem__ "Tree.__getitem__" = true)
    (k_t___getitem__ : PySem.W.keepIn K (.ref f_t___getitem__) = true)
    (a_t_parent : PySem.W.findIn K (.ref C) "parent" = some (some (.ref f_t_parent)))
    (i_t_parent : PySem.W.isFn K (.ref f_t_parent) = true)
    (l_t_parent : K.lookup f_t_parent = some ⟨oc_t_parent, od_t_parent, .func (PySem.W.fnOf "parent" "Tree.parent" (defArgs s_t_parent) (defBody s_t_parent) (defScope s_t_parent) .none kV_t_parent dc_t_parent pm_t_parent an_t_parent cd_t_parent ct_t_parent), sl_t_parent⟩)
    (c_t_parent : PySem.W.codeIn K cd_t_parent "Tree.parent" = true)
    (k_t_parent : PySem.W.keepIn K (.ref f_t_parent) = true)
    (a_is_heap : PySem.W.nsIn K mainGlobals "is_heap" = some (some (.ref f_is_heap)))
    (l_is_heap : K.lookup f_is_heap = some ⟨oc_is_heap, od_is_heap, .func (PySem.W.fnOf "is_heap" "is_heap" (defArgs s_is_heap) (defBody s_is_heap) (defScope s_is_heap) .none (.ref D_is_heap) dc_is_heap pm_is_heap an_is_heap cd_is_heap ct_is_heap), sl_is_heap⟩)
    (c_is_heap : PySem.W.codeIn K cd_is_heap "is_heap" = true)
    (k_is_heap : PySem.W.keepIn K (.ref f_is_heap) = true)
    {tk_is_heap : Tok}
    (w_is_heap : PySem.W.nsIn K D_is_heap "arms" = some (some (.int 2 tk_is_heap)))
    (a_faults : PySem.W.nsIn K mainGlobals "faults" = some (some (.ref f_faults)))
    (l_faults : K.lookup f_faults = some ⟨oc_faults, od_faults, .func (PySem.W.fnOf "faults" "faults" (defArgs s_faults) (defBody s_faults) (defScope s_faults) .none (.ref D_faults) dc_faults pm_faults an_faults cd_faults ct_faults), sl_faults⟩)
    (c_faults : PySem.W.codeIn K cd_faults "faults" = true)
    (k_faults : PySem.W.keepIn K (.ref f_faults) = true)
    {tk_faults : Tok}
    (w_faults : PySem.W.nsIn K D_faults "arms" = some (some (.int 2 tk_faults)))
    (a_heap_of : PySem.W.nsIn K mainGlobals "heap_of" = some (some (.ref f_heap_of)))
    (l_heap_of : K.lookup f_heap_of = some ⟨oc_heap_of, od_heap_of, .func (PySem.W.fnOf "heap_of" "heap_of" (defArgs s_heap_of) (defBody s_heap_of) (defScope s_heap_of) .none kV_heap_of dc_heap_of pm_heap_of an_heap_of cd_heap_of ct_heap_of), sl_heap_of⟩)
    (c_heap_of : PySem.W.codeIn K cd_heap_of "heap_of" = true)
    (k_heap_of : PySem.W.keepIn K (.ref f_heap_of) = true)
    (a_check_count : PySem.W.nsIn K mainGlobals "check_count" = some (some (.ref f_check_count)))
    (l_check_count : K.lookup f_check_count = some ⟨oc_check_count, od_check_count, .func (PySem.W.fnOf "check_count" "check_count" (defArgs s_check_count) (defBody s_check_count) (defScope s_check_count) .none kV_check_count dc_check_count pm_check_count an_check_count cd_check_count ct_check_count), sl_check_count⟩)
    (c_check_count : PySem.W.codeIn K cd_check_count "check_count" = true)
    (k_check_count : PySem.W.keepIn K (.ref f_check_count) = true)
    (a_g___init__ : PySem.W.findIn K (.ref CG) "__init__" = some (some (.ref f_g___init__)))
    (i_g___init__ : PySem.W.isFn K (.ref f_g___init__) = true)
    (l_g___init__ : K.lookup f_g___init__ = some ⟨oc_g___init__, od_g___init__, .func (PySem.W.fnOf "__init__" "Settled.__init__" (defArgs s_g___init__) (defBody s_g___init__) (defScope s_g___init__) .none kV_g___init__ dc_g___init__ pm_g___init__ an_g___init__ cd_g___init__ ct_g___init__), sl_g___init__⟩)
    (c_g___init__ : PySem.W.codeIn K cd_g___init__ "Settled.__init__" = true)
    (k_g___init__ : PySem.W.keepIn K (.ref f_g___init__) = true)
    (a_g___eq__ : PySem.W.findIn K (.ref CG) "__eq__" = some (some (.ref f_g___eq__)))
    (i_g___eq__ : PySem.W.isFn K (.ref f_g___eq__) = true)
    (l_g___eq__ : K.lookup f_g___eq__ = some ⟨oc_g___eq__, od_g___eq__, .func (PySem.W.fnOf "__eq__" "Settled.__eq__" (defArgs s_g___eq__) (defBody s_g___eq__) (defScope s_g___eq__) .none kV_g___eq__ dc_g___eq__ pm_g___eq__ an_g___eq__ cd_g___eq__ ct_g___eq__), sl_g___eq__⟩)
    (c_g___eq__ : PySem.W.codeIn K cd_g___eq__ "Settled.__eq__" = true)
    (k_g___eq__ : PySem.W.keepIn K (.ref f_g___eq__) = true)
    (a_g_shows : PySem.W.findIn K (.ref CG) "shows" = some (some (.ref f_g_shows)))
    (i_g_shows : PySem.W.isFn K (.ref f_g_shows) = true)
    (l_g_shows : K.lookup f_g_shows = some ⟨oc_g_shows, od_g_shows, .func (PySem.W.fnOf "shows" "Settled.shows" (defArgs s_g_shows) (defBody s_g_shows) (defScope s_g_shows) .none (.ref D_g_shows) dc_g_shows pm_g_shows an_g_shows cd_g_shows ct_g_shows), sl_g_shows⟩)
    (c_g_shows : PySem.W.codeIn K cd_g_shows "Settled.shows" = true)
    (k_g_shows : PySem.W.keepIn K (.ref f_g_shows) = true)
    {tk_g_shows : Tok}
    (w_g_shows : PySem.W.nsIn K D_g_shows "arms" = some (some (.int 2 tk_g_shows)))
    (a_u___init__ : PySem.W.findIn K (.ref CU) "__init__" = some (some (.ref f_u___init__)))
    (i_u___init__ : PySem.W.isFn K (.ref f_u___init__) = true)
    (l_u___init__ : K.lookup f_u___init__ = some ⟨oc_u___init__, od_u___init__, .func (PySem.W.fnOf "__init__" "Unsettled.__init__" (defArgs s_u___init__) (defBody s_u___init__) (defScope s_u___init__) .none kV_u___init__ dc_u___init__ pm_u___init__ an_u___init__ cd_u___init__ ct_u___init__), sl_u___init__⟩)
    (c_u___init__ : PySem.W.codeIn K cd_u___init__ "Unsettled.__init__" = true)
    (k_u___init__ : PySem.W.keepIn K (.ref f_u___init__) = true)
    (a_u___eq__ : PySem.W.findIn K (.ref CU) "__eq__" = some (some (.ref f_u___eq__)))
    (i_u___eq__ : PySem.W.isFn K (.ref f_u___eq__) = true)
    (l_u___eq__ : K.lookup f_u___eq__ = some ⟨oc_u___eq__, od_u___eq__, .func (PySem.W.fnOf "__eq__" "Unsettled.__eq__" (defArgs s_u___eq__) (defBody s_u___eq__) (defScope s_u___eq__) .none kV_u___eq__ dc_u___eq__ pm_u___eq__ an_u___eq__ cd_u___eq__ ct_u___eq__), sl_u___eq__⟩)
    (c_u___eq__ : PySem.W.codeIn K cd_u___eq__ "Unsettled.__eq__" = true)
    (k_u___eq__ : PySem.W.keepIn K (.ref f_u___eq__) = true)
    (a_u_shows : PySem.W.findIn K (.ref CU) "shows" = some (some (.ref f_u_shows)))
    (i_u_shows : PySem.W.isFn K (.ref f_u_shows) = true)
    (l_u_shows : K.lookup f_u_shows = some ⟨oc_u_shows, od_u_shows, .func (PySem.W.fnOf "shows" "Unsettled.shows" (defArgs s_u_shows) (defBody s_u_shows) (defScope s_u_shows) .none (.ref D_u_shows) dc_u_shows pm_u_shows an_u_shows cd_u_shows ct_u_shows), sl_u_shows⟩)
    (c_u_shows : PySem.W.codeIn K cd_u_shows "Unsettled.shows" = true)
    (k_u_shows : PySem.W.keepIn K (.ref f_u_shows) = true)
    {tk_u_shows : Tok}
    (w_u_shows : PySem.W.nsIn K D_u_shows "arms" = some (some (.int 2 tk_u_shows)))
    (a_judge_places : PySem.W.nsIn K mainGlobals "judge_places" = some (some (.ref f_judge_places)))
    (l_judge_places : K.lookup f_judge_places = some ⟨oc_judge_places, od_judge_places, .func (PySem.W.fnOf "judge_places" "judge_places" (defArgs s_judge_places) (defBody s_judge_places) (defScope s_judge_places) .none (.ref D_judge_places) dc_judge_places pm_judge_places an_judge_places cd_judge_places ct_judge_places), sl_judge_places⟩)
    (c_judge_places : PySem.W.codeIn K cd_judge_places "judge_places" = true)
    (k_judge_places : PySem.W.keepIn K (.ref f_judge_places) = true)
    {tk_judge_places : Tok}
    (w_judge_places : PySem.W.nsIn K D_judge_places "arms" = some (some (.int 2 tk_judge_places)))
    (a_does_settle : PySem.W.nsIn K mainGlobals "does_settle" = some (some (.ref f_does_settle)))
    (l_does_settle : K.lookup f_does_settle = some ⟨oc_does_settle, od_does_settle, .func (PySem.W.fnOf "does_settle" "does_settle" (defArgs s_does_settle) (defBody s_does_settle) (defScope s_does_settle) .none (.ref D_does_settle) dc_does_settle pm_does_settle an_does_settle cd_does_settle ct_does_settle), sl_does_settle⟩)
    (c_does_settle : PySem.W.codeIn K cd_does_settle "does_settle" = true)
    (k_does_settle : PySem.W.keepIn K (.ref f_does_settle) = true)
    {tk_does_settle : Tok}
    (w_does_settle : PySem.W.nsIn K D_does_settle "arms" = some (some (.int 2 tk_does_settle)))
    (a_counted_heap_of : PySem.W.nsIn K mainGlobals "counted_heap_of" = some (some (.ref f_counted_heap_of)))
    (l_counted_heap_of : K.lookup f_counted_heap_of = some ⟨oc_counted_heap_of, od_counted_heap_of, .func (PySem.W.fnOf "counted_heap_of" "counted_heap_of" (defArgs s_counted_heap_of) (defBody s_counted_heap_of) (defScope s_counted_heap_of) .none kV_counted_heap_of dc_counted_heap_of pm_counted_heap_of an_counted_heap_of cd_counted_heap_of ct_counted_heap_of), sl_counted_heap_of⟩)
    (c_counted_heap_of : PySem.W.codeIn K cd_counted_heap_of "counted_heap_of" = true)
    (k_counted_heap_of : PySem.W.keepIn K (.ref f_counted_heap_of) = true)
    (a_heap_of_places : PySem.W.nsIn K mainGlobals "heap_of_places" = some (some (.ref f_heap_of_places)))
    (l_heap_of_places : K.lookup f_heap_of_places = some ⟨oc_heap_of_places, od_heap_of_places, .func (PySem.W.fnOf "heap_of_places" "heap_of_places" (defArgs s_heap_of_places) (defBody s_heap_of_places) (defScope s_heap_of_places) .none kV_heap_of_places dc_heap_of_places pm_heap_of_places an_heap_of_places cd_heap_of_places ct_heap_of_places), sl_heap_of_places⟩)
    (c_heap_of_places : PySem.W.codeIn K cd_heap_of_places "heap_of_places" = true)
    (k_heap_of_places : PySem.W.keepIn K (.ref f_heap_of_places) = true)
    (a_row_with_least : PySem.W.nsIn K mainGlobals "row_with_least" = some (some (.ref f_row_with_least)))
    (l_row_with_least : K.lookup f_row_with_least = some ⟨oc_row_with_least, od_row_with_least, .func (PySem.W.fnOf "row_with_least" "row_with_least" (defArgs s_row_with_least) (defBody s_row_with_least) (defScope s_row_with_least) .none kV_row_with_least dc_row_with_least pm_row_with_least an_row_with_least cd_row_with_least ct_row_with_least), sl_row_with_least⟩)
    (c_row_with_least : PySem.W.codeIn K cd_row_with_least "row_with_least" = true)
    (k_row_with_least : PySem.W.keepIn K (.ref f_row_with_least) = true)
    (a_row_with_greatest : PySem.W.nsIn K mainGlobals "row_with_greatest" = some (some (.ref f_row_with_greatest)))
    (l_row_with_greatest : K.lookup f_row_with_greatest = some ⟨oc_row_with_greatest, od_row_with_greatest, .func (PySem.W.fnOf "row_with_greatest" "row_with_greatest" (defArgs s_row_with_greatest) (defBody s_row_with_greatest) (defScope s_row_with_greatest) .none kV_row_with_greatest dc_row_with_greatest pm_row_with_greatest an_row_with_greatest cd_row_with_greatest ct_row_with_greatest), sl_row_with_greatest⟩)
    (c_row_with_greatest : PySem.W.codeIn K cd_row_with_greatest "row_with_greatest" = true)
    (k_row_with_greatest : PySem.W.keepIn K (.ref f_row_with_greatest) = true)
    (a__law_number : PySem.W.nsIn K mainGlobals "_law_number" = some (some (.ref f__law_number)))
    (l__law_number : K.lookup f__law_number = some ⟨oc__law_number, od__law_number, .func (PySem.W.fnOf "_law_number" "_law_number" (defArgs s__law_number) (defBody s__law_number) (defScope s__law_number) .none kV__law_number dc__law_number pm__law_number an__law_number cd__law_number ct__law_number), sl__law_number⟩)
    (c__law_number : PySem.W.codeIn K cd__law_number "_law_number" = true)
    (k__law_number : PySem.W.keepIn K (.ref f__law_number) = true)
    (a__law_heap : PySem.W.nsIn K mainGlobals "_law_heap" = some (some (.ref f__law_heap)))
    (l__law_heap : K.lookup f__law_heap = some ⟨oc__law_heap, od__law_heap, .func (PySem.W.fnOf "_law_heap" "_law_heap" (defArgs s__law_heap) (defBody s__law_heap) (defScope s__law_heap) .none kV__law_heap dc__law_heap pm__law_heap an__law_heap cd__law_heap ct__law_heap), sl__law_heap⟩)
    (c__law_heap : PySem.W.codeIn K cd__law_heap "_law_heap" = true)
    (k__law_heap : PySem.W.keepIn K (.ref f__law_heap) = true)
    (a__law_sets : PySem.W.nsIn K mainGlobals "_law_sets" = some (some (.ref f__law_sets)))
    (l__law_sets : K.lookup f__law_sets = some ⟨oc__law_sets, od__law_sets, .func (PySem.W.fnOf "_law_sets" "_law_sets" (defArgs s__law_sets) (defBody s__law_sets) (defScope s__law_sets) .none kV__law_sets dc__law_sets pm__law_sets an__law_sets cd__law_sets ct__law_sets), sl__law_sets⟩)
    (c__law_sets : PySem.W.codeIn K cd__law_sets "_law_sets" = true)
    (k__law_sets : PySem.W.keepIn K (.ref f__law_sets) = true)
    (a__law_rows : PySem.W.nsIn K mainGlobals "_law_rows" = some (some (.ref f__law_rows)))
    (l__law_rows : K.lookup f__law_rows = some ⟨oc__law_rows, od__law_rows, .func (PySem.W.fnOf "_law_rows" "_law_rows" (defArgs s__law_rows) (defBody s__law_rows) (defScope s__law_rows) .none kV__law_rows dc__law_rows pm__law_rows an__law_rows cd__law_rows ct__law_rows), sl__law_rows⟩)
    (c__law_rows : PySem.W.codeIn K cd__law_rows "_law_rows" = true)
    (k__law_rows : PySem.W.keepIn K (.ref f__law_rows) = true)
    (a__law_changed : PySem.W.nsIn K mainGlobals "_law_changed" = some (some (.ref f__law_changed)))
    (l__law_changed : K.lookup f__law_changed = some ⟨oc__law_changed, od__law_changed, .func (PySem.W.fnOf "_law_changed" "_law_changed" (defArgs s__law_changed) (defBody s__law_changed) (defScope s__law_changed) .none kV__law_changed dc__law_changed pm__law_changed an__law_changed cd__law_changed ct__law_changed), sl__law_changed⟩)
    (c__law_changed : PySem.W.codeIn K cd__law_changed "_law_changed" = true)
    (k__law_changed : PySem.W.keepIn K (.ref f__law_changed) = true)
    (a__law_due : PySem.W.nsIn K mainGlobals "_law_due" = some (some (.ref f__law_due)))
    (l__law_due : K.lookup f__law_due = some ⟨oc__law_due, od__law_due, .func (PySem.W.fnOf "_law_due" "_law_due" (defArgs s__law_due) (defBody s__law_due) (defScope s__law_due) .none kV__law_due dc__law_due pm__law_due an__law_due cd__law_due ct__law_due), sl__law_due⟩)
    (c__law_due : PySem.W.codeIn K cd__law_due "_law_due" = true)
    (k__law_due : PySem.W.keepIn K (.ref f__law_due) = true)
    (a__law_right : PySem.W.nsIn K mainGlobals "_law_right" = some (some (.ref f__law_right)))
    (l__law_right : K.lookup f__law_right = some ⟨oc__law_right, od__law_right, .func (PySem.W.fnOf "_law_right" "_law_right" (defArgs s__law_right) (defBody s__law_right) (defScope s__law_right) .none kV__law_right dc__law_right pm__law_right an__law_right cd__law_right ct__law_right), sl__law_right⟩)
    (c__law_right : PySem.W.codeIn K cd__law_right "_law_right" = true)
    (k__law_right : PySem.W.keepIn K (.ref f__law_right) = true)
    (a_law : PySem.W.nsIn K mainGlobals "law" = some (some (.ref f_law)))
    (l_law : K.lookup f_law = some ⟨oc_law, od_law, .func (PySem.W.fnOf "law" "law" (defArgs s_law) (defBody s_law) (defScope s_law) .none kV_law dc_law pm_law an_law cd_law ct_law), sl_law⟩)
    (c_law : PySem.W.codeIn K cd_law "law" = true)
    (k_law : PySem.W.keepIn K (.ref f_law) = true)
    {tc_GREATEST_KEY : Tok}
    (q_GREATEST_KEY : PySem.W.nsIn K mainGlobals "GREATEST_KEY" = some (some (.int 1000000000 tc_GREATEST_KEY)))
    {tc_MOST_ARMS : Tok}
    (q_MOST_ARMS : PySem.W.nsIn K mainGlobals "MOST_ARMS" = some (some (.int 4 tc_MOST_ARMS)))
    {tc_MOST_PLACES : Tok}
    (q_MOST_PLACES : PySem.W.nsIn K mainGlobals "MOST_PLACES" = some (some (.int 12 tc_MOST_PLACES)))
    (z_all : PySem.W.nsIn K mainGlobals "all" = some none)
    (z_any : PySem.W.nsIn K mainGlobals "any" = some none)
    (z_bool : PySem.W.nsIn K mainGlobals "bool" = some none)
    (z_enumerate : PySem.W.nsIn K mainGlobals "enumerate" = some none)
    (z_int : PySem.W.nsIn K mainGlobals "int" = some none)
    (z_isinstance : PySem.W.nsIn K mainGlobals "isinstance" = some none)
    (z_iter : PySem.W.nsIn K mainGlobals "iter" = some none)
    (z_len : PySem.W.nsIn K mainGlobals "len" = some none)
    (z_list : PySem.W.nsIn K mainGlobals "list" = some none)
    (z_max : PySem.W.nsIn K mainGlobals "max" = some none)
    (z_min : PySem.W.nsIn K mainGlobals "min" = some none)
    (z_range : PySem.W.nsIn K mainGlobals "range" = some none)
    (z_reversed : PySem.W.nsIn K mainGlobals "reversed" = some none)
    (z_set : PySem.W.nsIn K mainGlobals "set" = some none)
    (z_sorted : PySem.W.nsIn K mainGlobals "sorted" = some none)
    (z_sum : PySem.W.nsIn K mainGlobals "sum" = some none)
    (z_tuple : PySem.W.nsIn K mainGlobals "tuple" = some none)
    (pg : PySem.W.plainGet K C Str.empty = true)
    (hd : PySem.W.hasDictIn K C = true)
    (po_ : PySem.W.plainOver K C = true)
    (sa : PySem.W.findIn K (.ref C) "__setattr__" = some (some (.builtin "object.__setattr__")))
    (na_nMany : PySem.W.findIn K (.ref C) "many" = some none)
    (na_nArms : PySem.W.findIn K (.ref C) "arms" = some none)
    (na_nPl : PySem.W.findIn K (.ref C) "_places" = some none)
    (mk : PySem.W.makesIn K C = true)
    (kc : PySem.W.keepIn K (.ref C) = true)
    (rd : PySem.W.readsIn K C (.type "type") = true)
    (ga : PySem.W.specialIn K (.ref C) "__getattribute__" = some (some (.builtin "type.__getattribute__")))
    (pgG : PySem.W.plainGet K CG Str.empty = true)
    (hdG : PySem.W.hasDictIn K CG = true)
    (po_G : PySem.W.plainOver K CG = true)
    (saG : PySem.W.findIn K (.ref CG) "__setattr__" = some (some (.builtin "object.__setattr__")))
    (na_gLeast : PySem.W.findIn K (.ref CG) "least" = some none)
    (mkG : PySem.W.makesIn K CG = true)
    (kcG : PySem.W.keepIn K (.ref CG) = true)
    (eneG : PySem.W.findIn K (.ref CG) "__ne__" = some (some (.builtin "object.__ne__")))
    (eobG : PySem.W.subIn K (.ref CG) (.type "object") = some true)
    (eniG : PySem.W.subIn K (.type "int") (.ref CG) = some false)
    (entG : PySem.W.subIn K (.type "tuple") (.ref CG) = some false)
    (kaG : PySem.W.findIn K (.ref CG) "__class__" = some (some (.builtin "object.__class__")))
    (knG : PySem.W.specialIn K (.builtin "object.__class__") "__get__" = some (some (.builtin "getset_descriptor.__get__")))
    (ktkG : PySem.W.takesIn K (.builtin "object.__class__") = some true)
    (kmG : PySem.W.mroIn K CG (.type "object") = some true)
    (kclG : PySem.W.isClsIn K CG = true)
    (ktyG : PySem.W.typeIn K (.ref CG) = some (.type "type"))
    (ensG_Unsettled : PySem.W.subIn K (.ref CU) (.ref CG) = some false)
    (nesG_Unsettled : (CU == CG) = false)
    (pgU : PySem.W.plainGet K CU Str.empty = true)
    (hdU : PySem.W.hasDictIn K CU = true)
    (po_U : PySem.W.plainOver K CU = true)
    (saU : PySem.W.findIn K (.ref CU) "__setattr__" = some (some (.builtin "object.__setattr__")))
    (na_uRow : PySem.W.findIn K (.ref CU) "row" = some none)
    (mkU : PySem.W.makesIn K CU = true)
    (kcU : PySem.W.keepIn K (.ref CU) = true)
    (eneU : PySem.W.findIn K (.ref CU) "__ne__" = some (some (.builtin "object.__ne__")))
    (eobU : PySem.W.subIn K (.ref CU) (.type "object") = some true)
    (eniU : PySem.W.subIn K (.type "int") (.ref CU) = some false)
    (entU : PySem.W.subIn K (.type "tuple") (.ref CU) = some false)
    (kaU : PySem.W.findIn K (.ref CU) "__class__" = some (some (.builtin "object.__class__")))
    (knU : PySem.W.specialIn K (.builtin "object.__class__") "__get__" = some (some (.builtin "getset_descriptor.__get__")))
    (ktkU : PySem.W.takesIn K (.builtin "object.__class__") = some true)
    (kmU : PySem.W.mroIn K CU (.type "object") = some true)
    (kclU : PySem.W.isClsIn K CU = true)
    (ktyU : PySem.W.typeIn K (.ref CU) = some (.type "type"))
    (ensU_Settled : PySem.W.subIn K (.ref CG) (.ref CU) = some false)
    (nesU_Settled : (CG == CU) = false)
    : ∃ fd : FuncData, (∀ (s : Shared) (v : Value), BindsTo s fd ⟨[v], []⟩ [("script", v)]) ∧ ∀ base : Heap, K.In base → base.Ns mainGlobals mg → FnOk l.prog w K mg base CX0 14 fa fd ["script"] (spLaw K) := by
  have e := hfa.symm.trans (PySem.W.mg_of X G a_law)
  cases e
  let A : Ad := { f_is_integer := f_is_integer, d_is_integer := (PySem.W.fnOf "is_integer" "is_integer" (defArgs s_is_integer) (defBody s_is_integer) (defScope s_is_integer) .none kV_is_integer dc_is_integer pm_is_integer an_is_integer cd_is_integer ct_is_integer), f_is_integer_from := f_is_integer_from, d_is_integer_from := (PySem.W.fnOf "is_integer_from" "is_integer_from" (defArgs s_is_integer_from) (defBody s_is_integer_from) (defScope s_is_integer_from) .none kV_is_integer_from dc_is_integer_from pm_is_integer_from an_is_integer_from cd_is_integer_from ct_is_integer_from), f_is_key := f_is_key, d_is_key := (PySem.W.fnOf "is_key" "is_key" (defArgs s_is_key) (defBody s_is_key) (defScope s_is_key) .none kV_is_key dc_is_key pm_is_key an_is_key cd_is_key ct_is_key), f_check_arms := f_check_arms, d_check_arms := (PySem.W.fnOf "check_arms" "check_arms" (defArgs s_check_arms) (defBody s_check_arms) (defScope s_check_arms) .none kV_check_arms dc_check_arms pm_check_arms an_check_arms cd_check_arms ct_check_arms), f_check_many := f_check_many, d_check_many := (PySem.W.fnOf "check_many" "check_many" (defArgs s_check_many) (defBody s_check_many) (defScope s_check_many) .none kV_check_many dc_check_many pm_check_many an_check_many cd_check_many ct_check_many), f_check_place := f_check_place, d_check_place := (PySem.W.fnOf "check_place" "check_place" (defArgs s_check_place) (defBody s_check_place) (defScope s_check_place) .none kV_check_place dc_check_place pm_check_place an_check_place cd_check_place ct_check_place), f_row_of := f_row_of, d_row_of := (PySem.W.fnOf "row_of" "row_of" (defArgs s_row_of) (defBody s_row_of) (defScope s_row_of) .none kV_row_of dc_row_of pm_row_of an_row_of cd_row_of ct_row_of), f_is_set_of_places := f_is_set_of_places, d_is_set_of_places := (PySem.W.fnOf "is_set_of_places" "is_set_of_places" (defArgs s_is_set_of_places) (defBody s_is_set_of_places) (defScope s_is_set_of_places) .none kV_is_set_of_places dc_is_set_of_places pm_is_set_of_places an_is_set_of_places cd_is_set_of_places ct_is_set_of_places), f_t___init__ := f_t___init__, d_t___init__ := (PySem.W.fnOf "__init__" "Tree.__init__" (defArgs s_t___init__) (defBody s_t___init__) (defScope s_t___init__) .none (.ref D_t___init__) dc_t___init__ pm_t___init__ an_t___init__ cd_t___init__ ct_t___init__), f_t_of := f_t_of, d_t_of := (PySem.W.fnOf "of" "Tree.of" (defArgs s_t_of) (defBody s_t_of) (defScope s_t_of) .none (.ref D_t_of) dc_t_of pm_t_of an_t_of cd_t_of ct_t_of), f_t___len__ := f_t___len__, d_t___len__ := (PySem.W.fnOf "__len__" "Tree.__len__" (defArgs s_t___len__) (defBody s_t___len__) (defScope s_t___len__) .none kV_t___len__ dc_t___len__ pm_t___len__ an_t___len__ cd_t___len__ ct_t___len__), f_t___iter__ := f_t___iter__, d_t___iter__ := (PySem.W.fnOf "__iter__" "Tree.__iter__" (defArgs s_t___iter__) (defBody s_t___iter__) (defScope s_t___iter__) .none kV_t___iter__ dc_t___iter__ pm_t___iter__ an_t___iter__ cd_t___iter__ ct_t___iter__), f_t___getitem__ := f_t___getitem__, d_t___getitem__ := (PySem.W.fnOf "__getitem__" "Tree.__getitem__" (defArgs s_t___getitem__) (defBody s_t___getitem__) (defScope s_t___getitem__) .none kV_t___getitem__ dc_t___getitem__ pm_t___getitem__ an_t___getitem__ cd_t___getitem__ ct_t___getitem__), f_t_parent := f_t_parent, d_t_parent := (PySem.W.fnOf "parent" "Tree.parent" (defArgs s_t_parent) (defBody s_t_parent) (defScope s_t_parent) .none kV_t_parent dc_t_parent pm_t_parent an_t_parent cd_t_parent ct_t_parent), f_is_heap := f_is_heap, d_is_heap := (PySem.W.fnOf "is_heap" "is_heap" (defArgs s_is_heap) (defBody s_is_heap) (defScope s_is_heap) .none (.ref D_is_heap) dc_is_heap pm_is_heap an_is_heap cd_is_heap ct_is_heap), f_faults := f_faults, d_faults := (PySem.W.fnOf "faults" "faults" (defArgs s_faults) (defBody s_faults) (defScope s_faults) .none (.ref D_faults) dc_faults pm_faults an_faults cd_faults ct_faults), f_heap_of := f_heap_of, d_heap_of := (PySem.W.fnOf "heap_of" "heap_of" (defArgs s_heap_of) (defBody s_heap_of) (defScope s_heap_of) .none kV_heap_of dc_heap_of pm_heap_of an_heap_of cd_heap_of ct_heap_of), f_check_count := f_check_count, d_check_count := (PySem.W.fnOf "check_count" "check_count" (defArgs s_check_count) (defBody s_check_count) (defScope s_check_count) .none kV_check_count dc_check_count pm_check_count an_check_count cd_check_count ct_check_count), f_g___init__ := f_g___init__, d_g___init__ := (PySem.W.fnOf "__init__" "Settled.__init__" (defArgs s_g___init__) (defBody s_g___init__) (defScope s_g___init__) .none kV_g___init__ dc_g___init__ pm_g___init__ an_g___init__ cd_g___init__ ct_g___init__), f_g___eq__ := f_g___eq__, d_g___eq__ := (PySem.W.fnOf "__eq__" "Settled.__eq__" (defArgs s_g___eq__) (defBody s_g___eq__) (defScope s_g___eq__) .none kV_g___eq__ dc_g___eq__ pm_g___eq__ an_g___eq__ cd_g___eq__ ct_g___eq__), f_g_shows := f_g_shows, d_g_shows := (PySem.W.fnOf "shows" "Settled.shows" (defArgs s_g_shows) (defBody s_g_shows) (defScope s_g_shows) .none (.ref D_g_shows) dc_g_shows pm_g_shows an_g_shows cd_g_shows ct_g_shows), f_u___init__ := f_u___init__, d_u___init__ := (PySem.W.fnOf "__init__" "Unsettled.__init__" (defArgs s_u___init__) (defBody s_u___init__) (defScope s_u___init__) .none kV_u___init__ dc_u___init__ pm_u___init__ an_u___init__ cd_u___init__ ct_u___init__), f_u___eq__ := f_u___eq__, d_u___eq__ := (PySem.W.fnOf "__eq__" "Unsettled.__eq__" (defArgs s_u___eq__) (defBody s_u___eq__) (defScope s_u___eq__) .none kV_u___eq__ dc_u___eq__ pm_u___eq__ an_u___eq__ cd_u___eq__ ct_u___eq__), f_u_shows := f_u_shows, d_u_shows := (PySem.W.fnOf "shows" "Unsettled.shows" (defArgs s_u_shows) (defBody s_u_shows) (defScope s_u_shows) .none (.ref D_u_shows) dc_u_shows pm_u_shows an_u_shows cd_u_shows ct_u_shows), f_judge_places := f_judge_places, d_judge_places := (PySem.W.fnOf "judge_places" "judge_places" (defArgs s_judge_places) (defBody s_judge_places) (defScope s_judge_places) .none (.ref D_judge_places) dc_judge_places pm_judge_places an_judge_places cd_judge_places ct_judge_places), f_does_settle := f_does_settle, d_does_settle := (PySem.W.fnOf "does_settle" "does_settle" (defArgs s_does_settle) (defBody s_does_settle) (defScope s_does_settle) .none (.ref D_does_settle) dc_does_settle pm_does_settle an_does_settle cd_does_settle ct_does_settle), f_counted_heap_of := f_counted_heap_of, d_counted_heap_of := (PySem.W.fnOf "counted_heap_of" "counted_heap_of" (defArgs s_counted_heap_of) (defBody s_counted_heap_of) (defScope s_counted_heap_of) .none kV_counted_heap_of dc_counted_heap_of pm_counted_heap_of an_counted_heap_of cd_counted_heap_of ct_counted_heap_of), f_heap_of_places := f_heap_of_places, d_heap_of_places := (PySem.W.fnOf "heap_of_places" "heap_of_places" (defArgs s_heap_of_places) (defBody s_heap_of_places) (defScope s_heap_of_places) .none kV_heap_of_places dc_heap_of_places pm_heap_of_places an_heap_of_places cd_heap_of_places ct_heap_of_places), f_row_with_least := f_row_with_least, d_row_with_least := (PySem.W.fnOf "row_with_least" "row_with_least" (defArgs s_row_with_least) (defBody s_row_with_least) (defScope s_row_with_least) .none kV_row_with_least dc_row_with_least pm_row_with_least an_row_with_least cd_row_with_least ct_row_with_least), f_row_with_greatest := f_row_with_greatest, d_row_with_greatest := (PySem.W.fnOf "row_with_greatest" "row_with_greatest" (defArgs s_row_with_greatest) (defBody s_row_with_greatest) (defScope s_row_with_greatest) .none kV_row_with_greatest dc_row_with_greatest pm_row_with_greatest an_row_with_greatest cd_row_with_greatest ct_row_with_greatest), f__law_number := f__law_number, d__law_number := (PySem.W.fnOf "_law_number" "_law_number" (defArgs s__law_number) (defBody s__law_number) (defScope s__law_number) .none kV__law_number dc__law_number pm__law_number an__law_number cd__law_number ct__law_number), f__law_heap := f__law_heap, d__law_heap := (PySem.W.fnOf "_law_heap" "_law_heap" (defArgs s__law_heap) (defBody s__law_heap) (defScope s__law_heap) .none kV__law_heap dc__law_heap pm__law_heap an__law_heap cd__law_heap ct__law_heap), f__law_sets := f__law_sets, d__law_sets := (PySem.W.fnOf "_law_sets" "_law_sets" (defArgs s__law_sets) (defBody s__law_sets) (defScope s__law_sets) .none kV__law_sets dc__law_sets pm__law_sets an__law_sets cd__law_sets ct__law_sets), f__law_rows := f__law_rows, d__law_rows := (PySem.W.fnOf "_law_rows" "_law_rows" (defArgs s__law_rows) (defBody s__law_rows) (defScope s__law_rows) .none kV__law_rows dc__law_rows pm__law_rows an__law_rows cd__law_rows ct__law_rows), f__law_changed := f__law_changed, d__law_changed := (PySem.W.fnOf "_law_changed" "_law_changed" (defArgs s__law_changed) (defBody s__law_changed) (defScope s__law_changed) .none kV__law_changed dc__law_changed pm__law_changed an__law_changed cd__law_changed ct__law_changed), f__law_due := f__law_due, d__law_due := (PySem.W.fnOf "_law_due" "_law_due" (defArgs s__law_due) (defBody s__law_due) (defScope s__law_due) .none kV__law_due dc__law_due pm__law_due an__law_due cd__law_due ct__law_due), f__law_right := f__law_right, d__law_right := (PySem.W.fnOf "_law_right" "_law_right" (defArgs s__law_right) (defBody s__law_right) (defScope s__law_right) .none kV__law_right dc__law_right pm__law_right an__law_right cd__law_right ct__law_right), f_law := fa, d_law := (PySem.W.fnOf "law" "law" (defArgs s_law) (defBody s_law) (defScope s_law) .none kV_law dc_law pm_law an_law cd_law ct_law), C := C, CG := CG, CU := CU, po := po }
  have T : Tx K mg A := {
    F_is_integer := (fun_mk (st := s_is_integer) l_is_integer c_is_integer k_is_integer)
    m_is_integer := PySem.W.mg_of X G a_is_integer
    F_is_integer_from := (fun_mk (st := s_is_integer_from) l_is_integer_from c_is_integer_from k_is_integer_from)
    m_is_integer_from := PySem.W.mg_of X G a_is_integer_from
    F_is_key := (fun_mk (st := s_is_key) l_is_key c_is_key k_is_key)
    m_is_key := PySem.W.mg_of X G a_is_key
    F_check_arms := (fun_mk (st := s_check_arms) l_check_arms c_check_arms k_check_arms)
    m_check_arms := PySem.W.mg_of X G a_check_arms
    F_check_many := (fun_mk (st := s_check_many) l_check_many c_check_many k_check_many)
    m_check_many := PySem.W.mg_of X G a_check_many
    F_check_place := (fun_mk (st := s_check_place) l_check_place c_check_place k_check_place)
    m_check_place := PySem.W.mg_of X G a_check_place
    F_row_of := (fun_mk (st := s_row_of) l_row_of c_row_of k_row_of)
    m_row_of := PySem.W.mg_of X G a_row_of
    F_is_set_of_places := (fun_mk (st := s_is_set_of_places) l_is_set_of_places c_is_set_of_places k_is_set_of_places)
    m_is_set_of_places := PySem.W.mg_of X G a_is_set_of_places
    F_t___init__ := ⟨⟨_, _, _, _, _, _, _, _, _, _, rfl, l_t___init__, c_t___init__, .inl ⟨rfl, rfl⟩, .inr ⟨_, rfl, fun q hq => by rw [List.mem_singleton.mp hq]; exact ⟨_, w_t___init__, relI _ _⟩⟩⟩, k_t___init__⟩
    F_t_of := ⟨⟨_, _, _, _, _, _, _, _, _, _, rfl, l_t_of, c_t_of, .inl ⟨rfl, rfl⟩, .inr ⟨_, rfl, fun q hq => by rw [List.mem_singleton.mp hq]; exact ⟨_, w_t_of, relI _ _⟩⟩⟩, k_t_of⟩
    F_t___len__ := (fun_mk (st := s_t___len__) l_t___len__ c_t___len__ k_t___len__)
    D_t___len__ := ⟨a_t___len__, i_t___len__, n_t___len__⟩
    F_t___iter__ := (fun_mk (st := s_t___iter__) l_t___iter__ c_t___iter__ k_t___iter__)
    D_t___iter__ := ⟨a_t___iter__, i_t___iter__, n_t___iter__⟩
    F_t___getitem__ := (fun_mk (st := s_t___getitem__) l_t___getitem__ c_t___getitem__ k_t___getitem__)
    D_t___getitem__ := ⟨a_t___getitem__, i_t___getitem__, n_t___getitem__⟩
    F_t_parent := (fun_mk (st := s_t_parent) l_t_parent c_t_parent k_t_parent)
    M_t_parent := ⟨a_t_parent, i_t_parent, k_t_parent⟩
    F_is_heap := ⟨⟨_, _, _, _, _, _, _, _, _, _, rfl, l_is_heap, c_is_heap, .inl ⟨rfl, rfl⟩, .inr ⟨_, rfl, fun q hq => by rw [List.mem_singleton.mp hq]; exact ⟨_, w_is_heap, relI _ _⟩⟩⟩, k_is_heap⟩
    m_is_heap := PySem.W.mg_of X G a_is_heap
    F_faults := ⟨⟨_, _, _, _, _, _, _, _, _, _, rfl, l_faults, c_faults, .inl ⟨rfl, rfl⟩, .inr ⟨_, rfl, fun q hq => by rw [List.mem_singleton.mp hq]; exact ⟨_, w_faults, relI _ _⟩⟩⟩, k_faults⟩
    m_faults := PySem.W.mg_of X G a_faults
    F_heap_of := (fun_mk (st := s_heap_of) l_heap_of c_heap_of k_heap_of)
    m_heap_of := PySem.W.mg_of X G a_heap_of
    F_check_count := (fun_mk (st := s_check_count) l_check_count c_check_count k_check_count)
    m_check_count := PySem.W.mg_of X G a_check_count
    F_g___init__ := (fun_mk (st := s_g___init__) l_g___init__ c_g___init__ k_g___init__)
    F_g___eq__ := (fun_mk (st := s_g___eq__) l_g___eq__ c_g___eq__ k_g___eq__)
    F_g_shows := ⟨⟨_, _, _, _, _, _, _, _, _, _, rfl, l_g_shows, c_g_shows, .inl ⟨rfl, rfl⟩, .inr ⟨_, rfl, fun q hq => by rw [List.mem_singleton.mp hq]; exact ⟨_, w_g_shows, relI _ _⟩⟩⟩, k_g_shows⟩
    M_g_shows := ⟨a_g_shows, i_g_shows, k_g_shows⟩
    F_u___init__ := (fun_mk (st := s_u___init__) l_u___init__ c_u___init__ k_u___init__)
    F_u___eq__ := (fun_mk (st := s_u___eq__) l_u___eq__ c_u___eq__ k_u___eq__)
    F_u_shows := ⟨⟨_, _, _, _, _, _, _, _, _, _, rfl, l_u_shows, c_u_shows, .inl ⟨rfl, rfl⟩, .inr ⟨_, rfl, fun q hq => by rw [List.mem_singleton.mp hq]; exact ⟨_, w_u_shows, relI _ _⟩⟩⟩, k_u_shows⟩
    M_u_shows := ⟨a_u_shows, i_u_shows, k_u_shows⟩
    F_judge_places := ⟨⟨_, _, _, _, _, _, _, _, _, _, rfl, l_judge_places, c_judge_places, .inl ⟨rfl, rfl⟩, .inr ⟨_, rfl, fun q hq => by rw [List.mem_singleton.mp hq]; exact ⟨_, w_judge_places, relI _ _⟩⟩⟩, k_judge_places⟩
    m_judge_places := PySem.W.mg_of X G a_judge_places
    F_does_settle := ⟨⟨_, _, _, _, _, _, _, _, _, _, rfl, l_does_settle, c_does_settle, .inl ⟨rfl, rfl⟩, .inr ⟨_, rfl, fun q hq => by rw [List.mem_singleton.mp hq]; exact ⟨_, w_does_settle, relI _ _⟩⟩⟩, k_does_settle⟩
    m_does_settle := PySem.W.mg_of X G a_does_settle
    F_counted_heap_of := (fun_mk (st := s_counted_heap_of) l_counted_heap_of c_counted_heap_of k_counted_heap_of)
    m_counted_heap_of := PySem.W.mg_of X G a_counted_heap_of
    F_heap_of_places := (fun_mk (st := s_heap_of_places) l_heap_of_places c_heap_of_places k_heap_of_places)
    m_heap_of_places := PySem.W.mg_of X G a_heap_of_places
    F_row_with_least := (fun_mk (st := s_row_with_least) l_row_with_least c_row_with_least k_row_with_least)
    m_row_with_least := PySem.W.mg_of X G a_row_with_least
    F_row_with_greatest := (fun_mk (st := s_row_with_greatest) l_row_with_greatest c_row_with_greatest k_row_with_greatest)
    m_row_with_greatest := PySem.W.mg_of X G a_row_with_greatest
    F__law_number := (fun_mk (st := s__law_number) l__law_number c__law_number k__law_number)
    m__law_number := PySem.W.mg_of X G a__law_number
    F__law_heap := (fun_mk (st := s__law_heap) l__law_heap c__law_heap k__law_heap)
    m__law_heap := PySem.W.mg_of X G a__law_heap
    F__law_sets := (fun_mk (st := s__law_sets) l__law_sets c__law_sets k__law_sets)
    m__law_sets := PySem.W.mg_of X G a__law_sets
    F__law_rows := (fun_mk (st := s__law_rows) l__law_rows c__law_rows k__law_rows)
    m__law_rows := PySem.W.mg_of X G a__law_rows
    F__law_changed := (fun_mk (st := s__law_changed) l__law_changed c__law_changed k__law_changed)
    m__law_changed := PySem.W.mg_of X G a__law_changed
    F__law_due := (fun_mk (st := s__law_due) l__law_due c__law_due k__law_due)
    m__law_due := PySem.W.mg_of X G a__law_due
    F__law_right := (fun_mk (st := s__law_right) l__law_right c__law_right k__law_right)
    m__law_right := PySem.W.mg_of X G a__law_right
    F_law := (fun_mk (st := s_law) l_law c_law k_law)
    m_law := PySem.W.mg_of X G a_law
    c_GREATEST_KEY := .inr ⟨_, PySem.W.mg_of X G q_GREATEST_KEY⟩
    c_MOST_ARMS := .inr ⟨_, PySem.W.mg_of X G q_MOST_ARMS⟩
    c_MOST_PLACES := .inr ⟨_, PySem.W.mg_of X G q_MOST_PLACES⟩
    g_all := PySem.W.mg_none_of X G z_all
    g_any := PySem.W.mg_none_of X G z_any
    g_bool := PySem.W.mg_none_of X G z_bool
    g_enumerate := PySem.W.mg_none_of X G z_enumerate
    g_int := PySem.W.mg_none_of X G z_int
    g_isinstance := PySem.W.mg_none_of X G z_isinstance
    g_iter := PySem.W.mg_none_of X G z_iter
    g_len := PySem.W.mg_none_of X G z_len
    g_list := PySem.W.mg_none_of X G z_list
    g_max := PySem.W.mg_none_of X G z_max
    g_min := PySem.W.mg_none_of X G z_min
    g_range := PySem.W.mg_none_of X G z_range
    g_reversed := PySem.W.mg_none_of X G z_reversed
    g_set := PySem.W.mg_none_of X G z_set
    g_sorted := PySem.W.mg_none_of X G z_sorted
    g_sum := PySem.W.mg_none_of X G z_sum
    g_tuple := PySem.W.mg_none_of X G z_tuple
    cT := ⟨pg, hd, po_, sa⟩
    nMany := na_nMany
    nArms := na_nArms
    nPl := na_nPl
    mC := PySem.W.mg_of X G aC
    mkC := ⟨mk, a_t___init__, i_t___init__, kc⟩
    cr := ⟨rd, ga⟩
    cof := ⟨a_t_of, ⟨_, r_t_of⟩, n_t_of⟩
    cTG := ⟨pgG, hdG, po_G, saG⟩
    gLeast := na_gLeast
    mCG := PySem.W.mg_of X G aCG
    mkCG := ⟨mkG, a_g___init__, i_g___init__, kcG⟩
    eqcG := ⟨a_g___eq__, i_g___eq__, eneG, eobG, eniG, entG⟩
    kaG := kaG
    knG := knG
    ktkG := ktkG
    kmG := kmG
    kiG_int := kit_no kclG ktyG eniG
    kiG_tuple := kit_no kclG ktyG entG
    nfG_CU := by unfold PySem.W.notFirst; rw [ensG_Unsettled]; simp
    kiG_CU := kit_no2 kclG ktyG ensG_Unsettled nesG_Unsettled
    cTU := ⟨pgU, hdU, po_U, saU⟩
    uRow := na_uRow
    mCU := PySem.W.mg_of X G aCU
    mkCU := ⟨mkU, a_u___init__, i_u___init__, kcU⟩
    eqcU := ⟨a_u___eq__, i_u___eq__, eneU, eobU, eniU, entU⟩
    kaU := kaU
    knU := knU
    ktkU := ktkU
    kmU := kmU
    kiU_int := kit_no kclU ktyU eniU
    kiU_tuple := kit_no kclU ktyU entU
    nfU_CG := by unfold PySem.W.notFirst; rw [ensU_Settled]; simp
    kiU_CG := kit_no2 kclU ktyU ensU_Settled nesU_Settled
  }
  exact ⟨A.d_law, fun s v => .of_eq rfl, fun base _ _ => ok_law T⟩
theorem walk {l : PySem.W.OpenLaw} {q : Program} {loose : List Str} {XP : (Str → Option Value) → Heap → Prop} {YP : World → Heap → Prop} {d : DefRec} {K : Params → PySem.W.Frag} (hn : l.most = some 63) (hdf : d.params.defaults = [])
    (hY : ∀ (w : World) (h : Heap), YP w h → (K w.params).In h)
    (F : ∀ (w : World) (mg : Str → Option Value) (fa : Addr) (h : Heap), (K w.params).In h → h.Ns mainGlobals mg → mg d.name = some (.ref fa) →
      ∃ fd : FuncData, (∀ (s : Shared) (u : Value), BindsTo s fd ⟨[u], []⟩ [("script", u)]) ∧ ∀ base : Heap, (K w.params).In base → base.Ns mainGlobals mg → FnOk l.prog w (K w.params) mg base CX0 14 fa fd ["script"] (spLaw (K w.params))) :
    PySem.W.WalkO q loose XP YP l.row.toRowW d [] (fun f vs => PySem.call f vs) :=
  L2.walk_of (n := 63) (k := 14) (x := "script") (CX := fun _ => CX0) (sp := fun w => spLaw (K w.params)) hn (by decide) hdf ⟨rfl, by decide, by decide⟩ hY F (fun _ _ a ns hl _ hS => ⟨a, ns, rfl, hS, hl, fun _ => rfl⟩) fun _ _ _ _ _ z => z
end Tw

set_option Elab.async false
set_option linter.all false
set_option maxRecDepth 100000
set_option maxHeartbeats 2000000
namespace Tw
open PySem PySem.Spec PyProof.Rows L2
set_option maxHeartbeats 0
abbrev R0 : PySem.W.OpenRow := PySem.W.OpenLaw.row PySem.Challenge.rw_heaprows_k68_whole_settled
def q_is_integer : Sh.FnA := ⟨fun K => (Sh.gA K "is_integer"), "is_integer", "is_integer", defArgs s_is_integer, defBody s_is_integer, defScope s_is_integer⟩
def q_is_integer_from : Sh.FnA := ⟨fun K => (Sh.gA K "is_integer_from"), "is_integer_from", "is_integer_from", defArgs s_is_integer_from, defBody s_is_integer_from, defScope s_is_integer_from⟩
def q_is_key : Sh.FnA := ⟨fun K => (Sh.gA K "is_key"), "is_key", "is_key", defArgs s_is_key, defBody s_is_key, defScope s_is_key⟩
def q_check_arms : Sh.FnA := ⟨fun K => (Sh.gA K "check_arms"), "check_arms", "check_arms", defArgs s_check_arms, defBody s_check_arms, defScope s_check_arms⟩
def q_check_many : Sh.FnA := ⟨fun K => (Sh.gA K "check_many"), "check_many", "check_many", defArgs s_check_many, defBody s_check_many, defScope s_check_many⟩
def q_check_place : Sh.FnA := ⟨fun K => (Sh.gA K "check_place"), "check_place", "check_place", defArgs s_check_place, defBody s_check_place, defScope s_check_place⟩
def q_row_of : Sh.FnA := ⟨fun K => (Sh.gA K "row_of"), "row_of", "row_of", defArgs s_row_of, defBody s_row_of, defScope s_row_of⟩
def q_is_set_of_places : Sh.FnA := ⟨fun K => (Sh.gA K "is_set_of_places"), "is_set_of_places", "is_set_of_places", defArgs s_is_set_of_places, defBody s_is_set_of_places, defScope s_is_set_of_places⟩
def q_t___init__ : Sh.FnA := ⟨fun K => (Sh.mA K (Sh.gA K "Tree") "__init__"), "__init__", "Tree.__init__", defArgs s_t___init__, defBody s_t___init__, defScope s_t___init__⟩
def q_t_of : Sh.FnA := ⟨fun K => (Sh.recA K (Sh.clsA K (Sh.gA K "Tree") "of") "classmethod"), "of", "Tree.of", defArgs s_t_of, defBody s_t_of, defScope s_t_of⟩
def q_t___len__ : Sh.FnA := ⟨fun K => (Sh.mA K (Sh.gA K "Tree") "__len__"), "__len__", "Tree.__len__", defArgs s_t___len__, defBody s_t___len__, defScope s_t___len__⟩
def q_t___iter__ : Sh.FnA := ⟨fun K => (Sh.mA K (Sh.gA K "Tree") "__iter__"), "__iter__", "Tree.__iter__", defArgs s_t___iter__, defBody s_t___iter__, defScope s_t___iter__⟩
def q_t___getitem__ : Sh.FnA := ⟨fun K => (Sh.mA K (Sh.gA K "Tree") "__getitem__"), "__getitem__", "Tree.__getitem__", defArgs s_t___getitem__, defBody s_t___getitem__, defScope s_t___getitem__⟩
def q_t_parent : Sh.FnA := ⟨fun K => (Sh.mA K (Sh.gA K "Tree") "parent"), "parent", "Tree.parent", defArgs s_t_parent, defBody s_t_parent, defScope s_t_parent⟩
def q_is_heap : Sh.FnA := ⟨fun K => (Sh.gA K "is_heap"), "is_heap", "is_heap", defArgs s_is_heap, defBody s_is_heap, defScope s_is_heap⟩
def q_faults : Sh.FnA := ⟨fun K => (Sh.gA K "faults"), "faults", "faults", defArgs s_faults, defBody s_faults, defScope s_faults⟩
def q_heap_of : Sh.FnA := ⟨fun K => (Sh.gA K "heap_of"), "heap_of", "heap_of", defArgs s_heap_of, defBody s_heap_of, defScope s_heap_of⟩
def q_check_count : Sh.FnA := ⟨fun K => (Sh.gA K "check_count"), "check_count", "check_count", defArgs s_check_count, defBody s_check_count, defScope s_check_count⟩
def q_g___init__ : Sh.FnA := ⟨fun K => (Sh.mA K (Sh.gA K "Settled") "__init__"), "__init__", "Settled.__init__", defArgs s_g___init__, defBody s_g___init__, defScope s_g___init__⟩
def q_g___eq__ : Sh.FnA := ⟨fun K => (Sh.mA K (Sh.gA K "Settled") "__eq__"), "__eq__", "Settled.__eq__", defArgs s_g___eq__, defBody s_g___eq__, defScope s_g___eq__⟩
def q_g_shows : Sh.FnA := ⟨fun K => (Sh.mA K (Sh.gA K "Settled") "shows"), "shows", "Settled.shows", defArgs s_g_shows, defBody s_g_shows, defScope s_g_shows⟩
def q_u___init__ : Sh.FnA := ⟨fun K => (Sh.mA K (Sh.gA K "Unsettled") "__init__"), "__init__", "Unsettled.__init__", defArgs s_u___init__, defBody s_u___init__, defScope s_u___init__⟩
def q_u___eq__ : Sh.FnA := ⟨fun K => (Sh.mA K (Sh.gA K "Unsettled") "__eq__"), "__eq__", "Unsettled.__eq__", defArgs s_u___eq__, defBody s_u___eq__, defScope s_u___eq__⟩
def q_u_shows : Sh.FnA := ⟨fun K => (Sh.mA K (Sh.gA K "Unsettled") "shows"), "shows", "Unsettled.shows", defArgs s_u_shows, defBody s_u_shows, defScope s_u_shows⟩
def q_judge_places : Sh.FnA := ⟨fun K => (Sh.gA K "judge_places"), "judge_places", "judge_places", defArgs s_judge_places, defBody s_judge_places, defScope s_judge_places⟩
def q_does_settle : Sh.FnA := ⟨fun K => (Sh.gA K "does_settle"), "does_settle", "does_settle", defArgs s_does_settle, defBody s_does_settle, defScope s_does_settle⟩
def q_counted_heap_of : Sh.FnA := ⟨fun K => (Sh.gA K "counted_heap_of"), "counted_heap_of", "counted_heap_of", defArgs s_counted_heap_of, defBody s_counted_heap_of, defScope s_counted_heap_of⟩
def q_heap_of_places : Sh.FnA := ⟨fun K => (Sh.gA K "heap_of_places"), "heap_of_places", "heap_of_places", defArgs s_heap_of_places, defBody s_heap_of_places, defScope s_heap_of_places⟩
def q_row_with_least : Sh.FnA := ⟨fun K => (Sh.gA K "row_with_least"), "row_with_least", "row_with_least", defArgs s_row_with_least, defBody s_row_with_least, defScope s_row_with_least⟩
def q_row_with_greatest : Sh.FnA := ⟨fun K => (Sh.gA K "row_with_greatest"), "row_with_greatest", "row_with_greatest", defArgs s_row_with_greatest, defBody s_row_with_greatest, defScope s_row_with_greatest⟩
def q__law_number : Sh.FnA := ⟨fun K => (Sh.gA K "_law_number"), "_law_number", "_law_number", defArgs s__law_number, defBody s__law_number, defScope s__law_number⟩
def q__law_heap : Sh.FnA := ⟨fun K => (Sh.gA K "_law_heap"), "_law_heap", "_law_heap", defArgs s__law_heap, defBody s__law_heap, defScope s__law_heap⟩
def q__law_sets : Sh.FnA := ⟨fun K => (Sh.gA K "_law_sets"), "_law_sets", "_law_sets", defArgs s__law_sets, defBody s__law_sets, defScope s__law_sets⟩
def q__law_rows : Sh.FnA := ⟨fun K => (Sh.gA K "_law_rows"), "_law_rows", "_law_rows", defArgs s__law_rows, defBody s__law_rows, defScope s__law_rows⟩
def q__law_changed : Sh.FnA := ⟨fun K => (Sh.gA K "_law_changed"), "_law_changed", "_law_changed", defArgs s__law_changed, defBody s__law_changed, defScope s__law_changed⟩
def q__law_due : Sh.FnA := ⟨fun K => (Sh.gA K "_law_due"), "_law_due", "_law_due", defArgs s__law_due, defBody s__law_due, defScope s__law_due⟩
def q__law_right : Sh.FnA := ⟨fun K => (Sh.gA K "_law_right"), "_law_right", "_law_right", defArgs s__law_right, defBody s__law_right, defScope s__law_right⟩
def q_law : Sh.FnA := ⟨fun K => (Sh.gA K "law"), "law", "law", defArgs s_law, defBody s_law, defScope s_law⟩
def fns0 : List Sh.FnA := [q_is_integer, q_is_integer_from, q_is_key, q_check_arms, q_check_many, q_check_place, q_row_of, q_is_set_of_places, q_t___init__, q_t_of, q_t___len__, q_t___iter__, q_t___getitem__, q_t_parent, q_is_heap, q_faults, q_heap_of, q_check_count, q_g___init__, q_g___eq__, q_g_shows, q_u___init__, q_u___eq__, q_u_shows, q_judge_places]
def fns1 : List Sh.FnA := [q_does_settle, q_counted_heap_of, q_heap_of_places, q_row_with_least, q_row_with_greatest, q__law_number, q__law_heap, q__law_sets, q__law_rows, q__law_changed, q__law_due, q__law_right, q_law]
def fns : List Sh.FnA := fns0 ++ fns1
def gr0 (K : PySem.W.Frag) : Bool := decide (PySem.W.nsIn K mainGlobals "Tree" = some (some (.ref (Sh.gA K "Tree")))) && (decide (PySem.W.nsIn K mainGlobals "Settled" = some (some (.ref (Sh.gA K "Settled")))) && (decide (PySem.W.nsIn K mainGlobals "Unsettled" = some (some (.ref (Sh.gA K "Unsettled")))) && (decide (PySem.W.nsIn K mainGlobals "is_integer" = some (some (.ref (Sh.gA K "is_integer")))) && (decide (PySem.W.nsIn K mainGlobals "is_integer_from" = some (some (.ref (Sh.gA K "is_integer_from")))) && (decide (PySem.W.nsIn K mainGlobals "is_key" = some (some (.ref (Sh.gA K "is_key")))) && (decide (PySem.W.nsIn K mainGlobals "check_arms" = some (some (.ref (Sh.gA K "check_arms")))) && (decide (PySem.W.nsIn K mainGlobals "check_many" = some (some (.ref (Sh.gA K "check_many")))) && (decide (PySem.W.nsIn K mainGlobals "check_place" = some (some (.ref (Sh.gA K "check_place")))) && (decide (PySem.W.nsIn K mainGlobals "row_of" = some (some (.ref (Sh.gA K "row_of")))) && (decide (PySem.W.nsIn K mainGlobals "is_set_of_places" = some (some (.ref (Sh.gA K "is_set_of_places")))) && (decide (PySem.W.findIn K (.ref (Sh.gA K "Tree")) "__init__" = some (some (.ref (Sh.mA K (Sh.gA K "Tree") "__init__")))))))))))))))
theorem gr0_ok {K : PySem.W.Frag} (h : gr0 K = true) : (PySem.W.nsIn K mainGlobals "Tree" = some (some (.ref (Sh.gA K "Tree")))) ∧ (PySem.W.nsIn K mainGlobals "Settled" = some (some (.ref (Sh.gA K "Settled")))) ∧ (PySem.W.nsIn K mainGlobals "Unsettled" = some (some (.ref (Sh.gA K "Unsettled")))) ∧ (PySem.W.nsIn K mainGlobals "is_integer" = some (some (.ref (Sh.gA K "is_integer")))) ∧ (PySem.W.nsIn K mainGlobals "is_integer_from" = some (some (.ref (Sh.gA K "is_integer_from")))) ∧ (PySem.W.nsIn K mainGlobals "is_key" = some (some (.ref (Sh.gA K "is_key")))) ∧ (PySem.W.nsIn K mainGlobals "check_arms" = some (some (.ref (Sh.gA K "check_arms")))) ∧ (PySem.W.nsIn K mainGlobals "check_many" = some (some (.ref (Sh.gA K "check_many")))) ∧ (PySem.W.nsIn K mainGlobals "check_place" = some (some (.ref (Sh.gA K "check_place")))) ∧ (PySem.W.nsIn K mainGlobals "row_of" = some (some (.ref (Sh.gA K "row_of")))) ∧ (PySem.W.nsIn K mainGlobals "is_set_of_places" = some (some (.ref (Sh.gA K "is_set_of_places")))) ∧ (PySem.W.findIn K (.ref (Sh.gA K "Tree")) "__init__" = some (some (.ref (Sh.mA K (Sh.gA K "Tree") "__init__")))) := by
  unfold gr0 at h
  obtain ⟨h0, h⟩ := Sh.band h
  obtain ⟨h1, h⟩ := Sh.band h
  obtain ⟨h2, h⟩ := Sh.band h
  obtain ⟨h3, h⟩ := Sh.band h
  obtain ⟨h4, h⟩ := Sh.band h
  obtain ⟨h5, h⟩ := Sh.band h
  obtain ⟨h6, h⟩ := Sh.band h
  obtain ⟨h7, h⟩ := Sh.band h
  obtain ⟨h8, h⟩ := Sh.band h
  obtain ⟨h9, h⟩ := Sh.band h
  obtain ⟨h10, h⟩ := Sh.band h
  exact ⟨of_decide_eq_true h0, of_decide_eq_true h1, of_decide_eq_true h2, of_decide_eq_true h3, of_decide_eq_true h4, of_decide_eq_true h5, of_decide_eq_true h6, of_decide_eq_true h7, of_decide_eq_true h8, of_decide_eq_true h9, of_decide_eq_true h10, of_decide_eq_true h⟩
def gr1 (K : PySem.W.Frag) : Bool := decide (PySem.W.isFn K (.ref (Sh.mA K (Sh.gA K "Tree") "__init__")) = true) && (decide (PySem.W.nsIn K (Sh.kwA K (Sh.mA K (Sh.gA K "Tree") "__init__")) "arms" = some (some (.int 2 (Sh.tokI K (Sh.kwA K (Sh.mA K (Sh.gA K "Tree") "__init__")) "arms")))) && (Sh.ofB K (Sh.gA K "Tree") (Sh.clsA K (Sh.gA K "Tree") "of") "of" && (decide (PySem.W.recIn K (Sh.clsA K (Sh.gA K "Tree") "of") "classmethod" = some (.ref (Sh.recA K (Sh.clsA K (Sh.gA K "Tree") "of") "classmethod") :: (Sh.recT K (Sh.clsA K (Sh.gA K "Tree") "of") "classmethod"))) && (decide (PySem.W.fnIn K (Sh.recA K (Sh.clsA K (Sh.gA K "Tree") "of") "classmethod") = true) && (decide (PySem.W.nsIn K (Sh.kwA K (Sh.recA K (Sh.clsA K (Sh.gA K "Tree") "of") "classmethod")) "arms" = some (some (.int 2 (Sh.tokI K (Sh.kwA K (Sh.recA K (Sh.clsA K (Sh.gA K "Tree") "of") "classmethod")) "arms")))) && (decide (PySem.W.findIn K (.ref (Sh.gA K "Tree")) "__len__" = some (some (.ref (Sh.mA K (Sh.gA K "Tree") "__len__")))) && (decide (PySem.W.isFn K (.ref (Sh.mA K (Sh.gA K "Tree") "__len__")) = true) && (decide (PySem.W.fnIn K (Sh.mA K (Sh.gA K "Tree") "__len__") = true) && (decide (PySem.W.findIn K (.ref (Sh.gA K "Tree")) "__iter__" = some (some (.ref (Sh.mA K (Sh.gA K "Tree") "__iter__")))) && (decide (PySem.W.isFn K (.ref (Sh.mA K (Sh.gA K "Tree") "__iter__")) = true) && (decide (PySem.W.fnIn K (Sh.mA K (Sh.gA K "Tree") "__iter__") = true))))))))))))
theorem gr1_ok {K : PySem.W.Frag} (h : gr1 K = true) : (PySem.W.isFn K (.ref (Sh.mA K (Sh.gA K "Tree") "__init__")) = true) ∧ (PySem.W.nsIn K (Sh.kwA K (Sh.mA K (Sh.gA K "Tree") "__init__")) "arms" = some (some (.int 2 (Sh.tokI K (Sh.kwA K (Sh.mA K (Sh.gA K "Tree") "__init__")) "arms")))) ∧ (PySem.W.findCls K (.ref (Sh.gA K "Tree")) (.type "type") "of" = some (.get (.builtin "classmethod.__get__") (.ref (Sh.clsA K (Sh.gA K "Tree") "of")) .none (.ref (Sh.gA K "Tree")))) ∧ (PySem.W.recIn K (Sh.clsA K (Sh.gA K "Tree") "of") "classmethod" = some (.ref (Sh.recA K (Sh.clsA K (Sh.gA K "Tree") "of") "classmethod") :: (Sh.recT K (Sh.clsA K (Sh.gA K "Tree") "of") "classmethod"))) ∧ (PySem.W.fnIn K (Sh.recA K (Sh.clsA K (Sh.gA K "Tree") "of") "classmethod") = true) ∧ (PySem.W.nsIn K (Sh.kwA K (Sh.recA K (Sh.clsA K (Sh.gA K "Tree") "of") "classmethod")) "arms" = some (some (.int 2 (Sh.tokI K (Sh.kwA K (Sh.recA K (Sh.clsA K (Sh.gA K "Tree") "of") "classmethod")) "arms")))) ∧ (PySem.W.findIn K (.ref (Sh.gA K "Tree")) "__len__" = some (some (.ref (Sh.mA K (Sh.gA K "Tree") "__len__")))) ∧ (PySem.W.isFn K (.ref (Sh.mA K (Sh.gA K "Tree") "__len__")) = true) ∧ (PySem.W.fnIn K (Sh.mA K (Sh.gA K "Tree") "__len__") = true) ∧ (PySem.W.findIn K (.ref (Sh.gA K "Tree")) "__iter__" = some (some (.ref (Sh.mA K (Sh.gA K "Tree") "__iter__")))) ∧ (PySem.W.isFn K (.ref (Sh.mA K (Sh.gA K "Tree") "__iter__")) = true) ∧ (PySem.W.fnIn K (Sh.mA K (Sh.gA K "Tree") "__iter__") = true) := by
  unfold gr1 at h
  obtain ⟨h0, h⟩ := Sh.band h
  obtain ⟨h1, h⟩ := Sh.band h
  obtain ⟨h2, h⟩ := Sh.band h
  obtain ⟨h3, h⟩ := Sh.band h
  obtain ⟨h4, h⟩ := Sh.band h
  obtain ⟨h5, h⟩ := Sh.band h
  obtain ⟨h6, h⟩ := Sh.band h
  obtain ⟨h7, h⟩ := Sh.band h
  obtain ⟨h8, h⟩ := Sh.band h
  obtain ⟨h9, h⟩ := Sh.band h
  obtain ⟨h10, h⟩ := Sh.band h
  exact ⟨of_decide_eq_true h0, of_decide_eq_true h1, Sh.ofB_ok h2, of_decide_eq_true h3, of_decide_eq_true h4, of_decide_eq_true h5, of_decide_eq_true h6, of_decide_eq_true h7, of_decide_eq_true h8, of_decide_eq_true h9, of_decide_eq_true h10, of_decide_eq_true h⟩
def gr2 (K : PySem.W.Frag) : Bool := decide (PySem.W.findIn K (.ref (Sh.gA K "Tree")) "__getitem__" = some (some (.ref (Sh.mA K (Sh.gA K "Tree") "__getitem__")))) && (decide (PySem.W.isFn K (.ref (Sh.mA K (Sh.gA K "Tree") "__getitem__")) = true) && (decide (PySem.W.fnIn K (Sh.mA K (Sh.gA K "Tree") "__getitem__") = true) && (decide (PySem.W.findIn K (.ref (Sh.gA K "Tree")) "parent" = some (some (.ref (Sh.mA K (Sh.gA K "Tree") "parent")))) && (decide (PySem.W.isFn K (.ref (Sh.mA K (Sh.gA K "Tree") "parent")) = true) && (decide (PySem.W.nsIn K mainGlobals "is_heap" = some (some (.ref (Sh.gA K "is_heap")))) && (decide (PySem.W.nsIn K (Sh.kwA K (Sh.gA K "is_heap")) "arms" = some (some (.int 2 (Sh.tokI K (Sh.kwA K (Sh.gA K "is_heap")) "arms")))) && (decide (PySem.W.nsIn K mainGlobals "faults" = some (some (.ref (Sh.gA K "faults")))) && (decide (PySem.W.nsIn K (Sh.kwA K (Sh.gA K "faults")) "arms" = some (some (.int 2 (Sh.tokI K (Sh.kwA K (Sh.gA K "faults")) "arms")))) && (decide (PySem.W.nsIn K mainGlobals "heap_of" = some (some (.ref (Sh.gA K "heap_of")))) && (decide (PySem.W.nsIn K mainGlobals "check_count" = some (some (.ref (Sh.gA K "check_count")))) && (decide (PySem.W.findIn K (.ref (Sh.gA K "Settled")) "__init__" = some (some (.ref (Sh.mA K (Sh.gA K "Settled") "__init__")))))))))))))))
theorem gr2_ok {K : PySem.W.Frag} (h : gr2 K = true) : (PySem.W.findIn K (.ref (Sh.gA K "Tree")) "__getitem__" = some (some (.ref (Sh.mA K (Sh.gA K "Tree") "__getitem__")))) ∧ (PySem.W.isFn K (.ref (Sh.mA K (Sh.gA K "Tree") "__getitem__")) = true) ∧ (PySem.W.fnIn K (Sh.mA K (Sh.gA K "Tree") "__getitem__") = true) ∧ (PySem.W.findIn K (.ref (Sh.gA K "Tree")) "parent" = some (some (.ref (Sh.mA K (Sh.gA K "Tree") "parent")))) ∧ (PySem.W.isFn K (.ref (Sh.mA K (Sh.gA K "Tree") "parent")) = true) ∧ (PySem.W.nsIn K mainGlobals "is_heap" = some (some (.ref (Sh.gA K "is_heap")))) ∧ (PySem.W.nsIn K (Sh.kwA K (Sh.gA K "is_heap")) "arms" = some (some (.int 2 (Sh.tokI K (Sh.kwA K (Sh.gA K "is_heap")) "arms")))) ∧ (PySem.W.nsIn K mainGlobals "faults" = some (some (.ref (Sh.gA K "faults")))) ∧ (PySem.W.nsIn K (Sh.kwA K (Sh.gA K "faults")) "arms" = some (some (.int 2 (Sh.tokI K (Sh.kwA K (Sh.gA K "faults")) "arms")))) ∧ (PySem.W.nsIn K mainGlobals "heap_of" = some (some (.ref (Sh.gA K "heap_of")))) ∧ (PySem.W.nsIn K mainGlobals "check_count" = some (some (.ref (Sh.gA K "check_count")))) ∧ (PySem.W.findIn K (.ref (Sh.gA K "Settled")) "__init__" = some (some (.ref (Sh.mA K (Sh.gA K "Settled") "__init__")))) := by
  unfold gr2 at h
  obtain ⟨h0, h⟩ := Sh.band h
  obtain ⟨h1, h⟩ := Sh.band h
  obtain ⟨h2, h⟩ := Sh.band h
  obtain ⟨h3, h⟩ := Sh.band h
  obtain ⟨h4, h⟩ := Sh.band h
  obtain ⟨h5, h⟩ := Sh.band h
  obtain ⟨h6, h⟩ := Sh.band h
  obtain ⟨h7, h⟩ := Sh.band h
  obtain ⟨h8, h⟩ := Sh.band h
  obtain ⟨h9, h⟩ := Sh.band h
  obtain ⟨h10, h⟩ := Sh.band h
  exact ⟨of_decide_eq_true h0, of_decide_eq_true h1, of_decide_eq_true h2, of_decide_eq_true h3, of_decide_eq_true h4, of_decide_eq_true h5, of_decide_eq_true h6, of_decide_eq_true h7, of_decide_eq_true h8, of_decide_eq_true h9, of_decide_eq_true h10, of_decide_eq_true h⟩
def gr3 (K : PySem.W.Frag) : Bool := decide (PySem.W.isFn K (.ref (Sh.mA K (Sh.gA K "Settled") "__init__")) = true) && (decide (PySem.W.findIn K (.ref (Sh.gA K "Settled")) "__eq__" = some (some (.ref (Sh.mA K (Sh.gA K "Settled") "__eq__")))) && (decide (PySem.W.isFn K (.ref (Sh.mA K (Sh.gA K "Settled") "__eq__")) = true) && (decide (PySem.W.findIn K (.ref (Sh.gA K "Settled")) "shows" = some (some (.ref (Sh.mA K (Sh.gA K "Settled") "shows")))) && (decide (PySem.W.isFn K (.ref (Sh.mA K (Sh.gA K "Settled") "shows")) = true) && (decide (PySem.W.nsIn K (Sh.kwA K (Sh.mA K (Sh.gA K "Settled") "shows")) "arms" = some (some (.int 2 (Sh.tokI K (Sh.kwA K (Sh.mA K (Sh.gA K "Settled") "shows")) "arms")))) && (decide (PySem.W.findIn K (.ref (Sh.gA K "Unsettled")) "__init__" = some (some (.ref (Sh.mA K (Sh.gA K "Unsettled") "__init__")))) && (decide (PySem.W.isFn K (.ref (Sh.mA K (Sh.gA K "Unsettled") "__init__")) = true) && (decide (PySem.W.findIn K (.ref (Sh.gA K "Unsettled")) "__eq__" = some (some (.ref (Sh.mA K (Sh.gA K "Unsettled") "__eq__")))) && (decide (PySem.W.isFn K (.ref (Sh.mA K (Sh.gA K "Unsettled") "__eq__")) = true) && (decide (PySem.W.findIn K (.ref (Sh.gA K "Unsettled")) "shows" = some (some (.ref (Sh.mA K (Sh.gA K "Unsettled") "shows")))) && (decide (PySem.W.isFn K (.ref (Sh.mA K (Sh.gA K "Unsettled") "shows")) = true))))))))))))
theorem gr3_ok {K : PySem.W.Frag} (h : gr3 K = true) : (PySem.W.isFn K (.ref (Sh.mA K (Sh.gA K "Settled") "__init__")) = true) ∧ (PySem.W.findIn K (.ref (Sh.gA K "Settled")) "__eq__" = some (some (.ref (Sh.mA K (Sh.gA K "Settled") "__eq__")))) ∧ (PySem.W.isFn K (.ref (Sh.mA K (Sh.gA K "Settled") "__eq__")) = true) ∧ (PySem.W.findIn K (.ref (Sh.gA K "Settled")) "shows" = some (some (.ref (Sh.mA K (Sh.gA K "Settled") "shows")))) ∧ (PySem.W.isFn K (.ref (Sh.mA K (Sh.gA K "Settled") "shows")) = true) ∧ (PySem.W.nsIn K (Sh.kwA K (Sh.mA K (Sh.gA K "Settled") "shows")) "arms" = some (some (.int 2 (Sh.tokI K (Sh.kwA K (Sh.mA K (Sh.gA K "Settled") "shows")) "arms")))) ∧ (PySem.W.findIn K (.ref (Sh.gA K "Unsettled")) "__init__" = some (some (.ref (Sh.mA K (Sh.gA K "Unsettled") "__init__")))) ∧ (PySem.W.isFn K (.ref (Sh.mA K (Sh.gA K "Unsettled") "__init__")) = true) ∧ (PySem.W.findIn K (.ref (Sh.gA K "Unsettled")) "__eq__" = some (some (.ref (Sh.mA K (Sh.gA K "Unsettled") "__eq__")))) ∧ (PySem.W.isFn K (.ref (Sh.mA K (Sh.gA K "Unsettled") "__eq__")) = true) ∧ (PySem.W.findIn K (.ref (Sh.gA K "Unsettled")) "shows" = some (some (.ref (Sh.mA K (Sh.gA K "Unsettled") "shows")))) ∧ (PySem.W.isFn K (.ref (Sh.mA K (Sh.gA K "Unsettled") "shows")) = true) := by
  unfold gr3 at h
  obtain ⟨h0, h⟩ := Sh.band h
  obtain ⟨h1, h⟩ := Sh.band h
  obtain ⟨h2, h⟩ := Sh.band h
  obtain ⟨h3, h⟩ := Sh.band h
  obtain ⟨h4, h⟩ := Sh.band h
  obtain ⟨h5, h⟩ := Sh.band h
  obtain ⟨h6, h⟩ := Sh.band h
  obtain ⟨h7, h⟩ := Sh.band h
  obtain ⟨h8, h⟩ := Sh.band h
  obtain ⟨h9, h⟩ := Sh.band h
  obtain ⟨h10, h⟩ := Sh.band h
  exact ⟨of_decide_eq_true h0, of_decide_eq_true h1, of_decide_eq_true h2, of_decide_eq_true h3, of_decide_eq_true h4, of_decide_eq_true h5, of_decide_eq_true h6, of_decide_eq_true h7, of_decide_eq_true h8, of_decide_eq_true h9, of_decide_eq_true h10, of_decide_eq_true h⟩
def gr4 (K : PySem.W.Frag) : Bool := decide (PySem.W.nsIn K (Sh.kwA K (Sh.mA K (Sh.gA K "Unsettled") "shows")) "arms" = some (some (.int 2 (Sh.tokI K (Sh.kwA K (Sh.mA K (Sh.gA K "Unsettled") "shows")) "arms")))) && (decide (PySem.W.nsIn K mainGlobals "judge_places" = some (some (.ref (Sh.gA K "judge_places")))) && (decide (PySem.W.nsIn K (Sh.kwA K (Sh.gA K "judge_places")) "arms" = some (some (.int 2 (Sh.tokI K (Sh.kwA K (Sh.gA K "judge_places")) "arms")))) && (decide (PySem.W.nsIn K mainGlobals "does_settle" = some (some (.ref (Sh.gA K "does_settle")))) && (decide (PySem.W.nsIn K (Sh.kwA K (Sh.gA K "does_settle")) "arms" = some (some (.int 2 (Sh.tokI K (Sh.kwA K (Sh.gA K "does_settle")) "arms")))) && (decide (PySem.W.nsIn K mainGlobals "counted_heap_of" = some (some (.ref (Sh.gA K "counted_heap_of")))) && (decide (PySem.W.nsIn K mainGlobals "heap_of_places" = some (some (.ref (Sh.gA K "heap_of_places")))) && (decide (PySem.W.nsIn K mainGlobals "row_with_least" = some (some (.ref (Sh.gA K "row_with_least")))) && (decide (PySem.W.nsIn K mainGlobals "row_with_greatest" = some (some (.ref (Sh.gA K "row_with_greatest")))) && (decide (PySem.W.nsIn K mainGlobals "_law_number" = some (some (.ref (Sh.gA K "_law_number")))) && (decide (PySem.W.nsIn K mainGlobals "_law_heap" = some (some (.ref (Sh.gA K "_law_heap")))) && (decide (PySem.W.nsIn K mainGlobals "_law_sets" = some (some (.ref (Sh.gA K "_law_sets")))))))))))))))
theorem gr4_ok {K : PySem.W.Frag} (h : gr4 K = true) : (PySem.W.nsIn K (Sh.kwA K (Sh.mA K (Sh.gA K "Unsettled") "shows")) "arms" = some (some (.int 2 (Sh.tokI K (Sh.kwA K (Sh.mA K (Sh.gA K "Unsettled") "shows")) "arms")))) ∧ (PySem.W.nsIn K mainGlobals "judge_places" = some (some (.ref (Sh.gA K "judge_places")))) ∧ (PySem.W.nsIn K (Sh.kwA K (Sh.gA K "judge_places")) "arms" = some (some (.int 2 (Sh.tokI K (Sh.kwA K (Sh.gA K "judge_places")) "arms")))) ∧ (PySem.W.nsIn K mainGlobals "does_settle" = some (some (.ref (Sh.gA K "does_settle")))) ∧ (PySem.W.nsIn K (Sh.kwA K (Sh.gA K "does_settle")) "arms" = some (some (.int 2 (Sh.tokI K (Sh.kwA K (Sh.gA K "does_settle")) "arms")))) ∧ (PySem.W.nsIn K mainGlobals "counted_heap_of" = some (some (.ref (Sh.gA K "counted_heap_of")))) ∧ (PySem.W.nsIn K mainGlobals "heap_of_places" = some (some (.ref (Sh.gA K "heap_of_places")))) ∧ (PySem.W.nsIn K mainGlobals "row_with_least" = some (some (.ref (Sh.gA K "row_with_least")))) ∧ (PySem.W.nsIn K mainGlobals "row_with_greatest" = some (some (.ref (Sh.gA K "row_with_greatest")))) ∧ (PySem.W.nsIn K mainGlobals "_law_number" = some (some (.ref (Sh.gA K "_law_number")))) ∧ (PySem.W.nsIn K mainGlobals "_law_heap" = some (some (.ref (Sh.gA K "_law_heap")))) ∧ (PySem.W.nsIn K mainGlobals "_law_sets" = some (some (.ref (Sh.gA K "_law_sets")))) := by
  unfold gr4 at h
  obtain ⟨h0, h⟩ := Sh.band h
  obtain ⟨h1, h⟩ := Sh.band h
  obtain ⟨h2, h⟩ := Sh.band h
  obtain ⟨h3, h⟩ := Sh.band h
  obtain ⟨h4, h⟩ := Sh.band h
  obtain ⟨h5, h⟩ := Sh.band h
  obtain ⟨h6, h⟩ := Sh.band h
  obtain ⟨h7, h⟩ := Sh.band h
  obtain ⟨h8, h⟩ := Sh.band h
  obtain ⟨h9, h⟩ := Sh.band h
  obtain ⟨h10, h⟩ := Sh.band h
  exact ⟨of_decide_eq_true h0, of_decide_eq_true h1, of_decide_eq_true h2, of_decide_eq_true h3, of_decide_eq_true h4, of_decide_eq_true h5, of_decide_eq_true h6, of_decide_eq_true h7, of_decide_eq_true h8, of_decide_eq_true h9, of_decide_eq_true h10, of_decide_eq_true h⟩
def gr5 (K : PySem.W.Frag) : Bool := decide (PySem.W.nsIn K mainGlobals "_law_rows" = some (some (.ref (Sh.gA K "_law_rows")))) && (decide (PySem.W.nsIn K mainGlobals "_law_changed" = some (some (.ref (Sh.gA K "_law_changed")))) && (decide (PySem.W.nsIn K mainGlobals "_law_due" = some (some (.ref (Sh.gA K "_law_due")))) && (decide (PySem.W.nsIn K mainGlobals "_law_right" = some (some (.ref (Sh.gA K "_law_right")))) && (decide (PySem.W.nsIn K mainGlobals "law" = some (some (.ref (Sh.gA K "law")))) && (decide (PySem.W.nsIn K mainGlobals "GREATEST_KEY" = some (some (.int 1000000000 (Sh.tokI K mainGlobals "GREATEST_KEY")))) && (decide (PySem.W.nsIn K mainGlobals "MOST_ARMS" = some (some (.int 4 (Sh.tokI K mainGlobals "MOST_ARMS")))) && (decide (PySem.W.nsIn K mainGlobals "MOST_PLACES" = some (some (.int 12 (Sh.tokI K mainGlobals "MOST_PLACES")))) && (decide (PySem.W.nsIn K mainGlobals "all" = some none) && (decide (PySem.W.nsIn K mainGlobals "any" = some none) && (decide (PySem.W.nsIn K mainGlobals "bool" = some none) && (decide (PySem.W.nsIn K mainGlobals "enumerate" = some none))))))))))))
theorem gr5_ok {K : PySem.W.Frag} (h : gr5 K = true) : (PySem.W.nsIn K mainGlobals "_law_rows" = some (some (.ref (Sh.gA K "_law_rows")))) ∧ (PySem.W.nsIn K mainGlobals "_law_changed" = some (some (.ref (Sh.gA K "_law_changed")))) ∧ (PySem.W.nsIn K mainGlobals "_law_due" = some (some (.ref (Sh.gA K "_law_due")))) ∧ (PySem.W.nsIn K mainGlobals "_law_right" = some (some (.ref (Sh.gA K "_law_right")))) ∧ (PySem.W.nsIn K mainGlobals "law" = some (some (.ref (Sh.gA K "law")))) ∧ (PySem.W.nsIn K mainGlobals "GREATEST_KEY" = some (some (.int 1000000000 (Sh.tokI K mainGlobals "GREATEST_KEY")))) ∧ (PySem.W.nsIn K mainGlobals "MOST_ARMS" = some (some (.int 4 (Sh.tokI K mainGlobals "MOST_ARMS")))) ∧ (PySem.W.nsIn K mainGlobals "MOST_PLACES" = some (some (.int 12 (Sh.tokI K mainGlobals "MOST_PLACES")))) ∧ (PySem.W.nsIn K mainGlobals "all" = some none) ∧ (PySem.W.nsIn K mainGlobals "any" = some none) ∧ (PySem.W.nsIn K mainGlobals "bool" = some none) ∧ (PySem.W.nsIn K mainGlobals "enumerate" = some none) := by
  unfold gr5 at h
  obtain ⟨h0, h⟩ := Sh.band h
  obtain ⟨h1, h⟩ := Sh.band h
  obtain ⟨h2, h⟩ := Sh.band h
  obtain ⟨h3, h⟩ := Sh.band h
  obtain ⟨h4, h⟩ := Sh.band h
  obtain ⟨h5, h⟩ := Sh.band h
  obtain ⟨h6, h⟩ := Sh.band h
  obtain ⟨h7, h⟩ := Sh.band h
  obtain ⟨h8, h⟩ := Sh.band h
  obtain ⟨h9, h⟩ := Sh.band h
  obtain ⟨h10, h⟩ := Sh.band h
  exact ⟨of_decide_eq_true h0, of_decide_eq_true h1, of_decide_eq_true h2, of_decide_eq_true h3, of_decide_eq_true h4, of_decide_eq_true h5, of_decide_eq_true h6, of_decide_eq_true h7, of_decide_eq_true h8, of_decide_eq_true h9, of_decide_eq_true h10, of_decide_eq_true h⟩
def gr6 (K : PySem.W.Frag) : Bool := decide (PySem.W.nsIn K mainGlobals "int" = some none) && (decide (PySem.W.nsIn K mainGlobals "isinstance" = some none) && (decide (PySem.W.nsIn K mainGlobals "iter" = some none) && (decide (PySem.W.nsIn K mainGlobals "len" = some none) && (decide (PySem.W.nsIn K mainGlobals "list" = some none) && (decide (PySem.W.nsIn K mainGlobals "max" = some none) && (decide (PySem.W.nsIn K mainGlobals "min" = some none) && (decide (PySem.W.nsIn K mainGlobals "range" = some none) && (decide (PySem.W.nsIn K mainGlobals "reversed" = some none) && (decide (PySem.W.nsIn K mainGlobals "set" = some none) && (decide (PySem.W.nsIn K mainGlobals "sorted" = some none) && (decide (PySem.W.nsIn K mainGlobals "sum" = some none))))))))))))
theorem gr6_ok {K : PySem.W.Frag} (h : gr6 K = true) : (PySem.W.nsIn K mainGlobals "int" = some none) ∧ (PySem.W.nsIn K mainGlobals "isinstance" = some none) ∧ (PySem.W.nsIn K mainGlobals "iter" = some none) ∧ (PySem.W.nsIn K mainGlobals "len" = some none) ∧ (PySem.W.nsIn K mainGlobals "list" = some none) ∧ (PySem.W.nsIn K mainGlobals "max" = some none) ∧ (PySem.W.nsIn K mainGlobals "min" = some none) ∧ (PySem.W.nsIn K mainGlobals "range" = some none) ∧ (PySem.W.nsIn K mainGlobals "reversed" = some none) ∧ (PySem.W.nsIn K mainGlobals "set" = some none) ∧ (PySem.W.nsIn K mainGlobals "sorted" = some none) ∧ (PySem.W.nsIn K mainGlobals "sum" = some none) := by
  unfold gr6 at h
  obtain ⟨h0, h⟩ := Sh.band h
  obtain ⟨h1, h⟩ := Sh.band h
  obtain ⟨h2, h⟩ := Sh.band h
  obtain ⟨h3, h⟩ := Sh.band h
  obtain ⟨h4, h⟩ := Sh.band h
  obtain ⟨h5, h⟩ := Sh.band h
  obtain ⟨h6, h⟩ := Sh.band h
  obtain ⟨h7, h⟩ := Sh.band h
  obtain ⟨h8, h⟩ := Sh.band h
  obtain ⟨h9, h⟩ := Sh.band h
  obtain ⟨h10, h⟩ := Sh.band h
  exact ⟨of_decide_eq_true h0, of_decide_eq_true h1, of_decide_eq_true h2, of_decide_eq_true h3, of_decide_eq_true h4, of_decide_eq_true h5, of_decide_eq_true h6, of_decide_eq_true h7, of_decide_eq_true h8, of_decide_eq_true h9, of_decide_eq_true h10, of_decide_eq_true h⟩
def gr7 (K : PySem.W.Frag) : Bool := decide (PySem.W.nsIn K mainGlobals "tuple" = some none) && (decide (PySem.W.plainGet K (Sh.gA K "Tree") Str.empty = true) && (decide (PySem.W.hasDictIn K (Sh.gA K "Tree") = true) && (decide (PySem.W.plainOver K (Sh.gA K "Tree") = true) && (decide (PySem.W.findIn K (.ref (Sh.gA K "Tree")) "__setattr__" = some (some (.builtin "object.__setattr__"))) && (decide (PySem.W.findIn K (.ref (Sh.gA K "Tree")) "many" = some none) && (decide (PySem.W.findIn K (.ref (Sh.gA K "Tree")) "arms" = some none) && (decide (PySem.W.findIn K (.ref (Sh.gA K "Tree")) "_places" = some none) && (decide (PySem.W.makesIn K (Sh.gA K "Tree") = true) && (decide (PySem.W.keepIn K (.ref (Sh.gA K "Tree")) = true) && (decide (PySem.W.readsIn K (Sh.gA K "Tree") (.type "type") = true) && (decide (PySem.W.specialIn K (.ref (Sh.gA K "Tree")) "__getattribute__" = some (some (.builtin "type.__getattribute__"))))))))))))))
theorem gr7_ok {K : PySem.W.Frag} (h : gr7 K = true) : (PySem.W.nsIn K mainGlobals "tuple" = some none) ∧ (PySem.W.plainGet K (Sh.gA K "Tree") Str.empty = true) ∧ (PySem.W.hasDictIn K (Sh.gA K "Tree") = true) ∧ (PySem.W.plainOver K (Sh.gA K "Tree") = true) ∧ (PySem.W.findIn K (.ref (Sh.gA K "Tree")) "__setattr__" = some (some (.builtin "object.__setattr__"))) ∧ (PySem.W.findIn K (.ref (Sh.gA K "Tree")) "many" = some none) ∧ (PySem.W.findIn K (.ref (Sh.gA K "Tree")) "arms" = some none) ∧ (PySem.W.findIn K (.ref (Sh.gA K "Tree")) "_places" = some none) ∧ (PySem.W.makesIn K (Sh.gA K "Tree") = true) ∧ (PySem.W.keepIn K (.ref (Sh.gA K "Tree")) = true) ∧ (PySem.W.readsIn K (Sh.gA K "Tree") (.type "type") = true) ∧ (PySem.W.specialIn K (.ref (Sh.gA K "Tree")) "__getattribute__" = some (some (.builtin "type.__getattribute__"))) := by
  unfold gr7 at h
  obtain ⟨h0, h⟩ := Sh.band h
  obtain ⟨h1, h⟩ := Sh.band h
  obtain ⟨h2, h⟩ := Sh.band h
  obtain ⟨h3, h⟩ := Sh.band h
  obtain ⟨h4, h⟩ := Sh.band h
  obtain ⟨h5, h⟩ := Sh.band h
  obtain ⟨h6, h⟩ := Sh.band h
  obtain ⟨h7, h⟩ := Sh.band h
  obtain ⟨h8, h⟩ := Sh.band h
  obtain ⟨h9, h⟩ := Sh.band h
  obtain ⟨h10, h⟩ := Sh.band h
  exact ⟨of_decide_eq_true h0, of_decide_eq_true h1, of_decide_eq_true h2, of_decide_eq_true h3, of_decide_eq_true h4, of_decide_eq_true h5, of_decide_eq_true h6, of_decide_eq_true h7, of_decide_eq_true h8, of_decide_eq_true h9, of_decide_eq_true h10, of_decide_eq_true h⟩
def gr8 (K : PySem.W.Frag) : Bool := decide (PySem.W.plainGet K (Sh.gA K "Settled") Str.empty = true) && (decide (PySem.W.hasDictIn K (Sh.gA K "Settled") = true) && (decide (PySem.W.plainOver K (Sh.gA K "Settled") = true) && (decide (PySem.W.findIn K (.ref (Sh.gA K "Settled")) "__setattr__" = some (some (.builtin "object.__setattr__"))) && (decide (PySem.W.findIn K (.ref (Sh.gA K "Settled")) "least" = some none) && (decide (PySem.W.makesIn K (Sh.gA K "Settled") = true) && (decide (PySem.W.keepIn K (.ref (Sh.gA K "Settled")) = true) && (decide (PySem.W.findIn K (.ref (Sh.gA K "Settled")) "__ne__" = some (some (.builtin "object.__ne__"))) && (decide (PySem.W.subIn K (.ref (Sh.gA K "Settled")) (.type "object") = some true) && (decide (PySem.W.subIn K (.type "int") (.ref (Sh.gA K "Settled")) = some false) && (decide (PySem.W.subIn K (.type "tuple") (.ref (Sh.gA K "Settled")) = some false) && (decide (PySem.W.findIn K (.ref (Sh.gA K "Settled")) "__class__" = some (some (.builtin "object.__class__"))))))))))))))
theorem gr8_ok {K : PySem.W.Frag} (h : gr8 K = true) : (PySem.W.plainGet K (Sh.gA K "Settled") Str.empty = true) ∧ (PySem.W.hasDictIn K (Sh.gA K "Settled") = true) ∧ (PySem.W.plainOver K (Sh.gA K "Settled") = true) ∧ (PySem.W.findIn K (.ref (Sh.gA K "Settled")) "__setattr__" = some (some (.builtin "object.__setattr__"))) ∧ (PySem.W.findIn K (.ref (Sh.gA K "Settled")) "least" = some none) ∧ (PySem.W.makesIn K (Sh.gA K "Settled") = true) ∧ (PySem.W.keepIn K (.ref (Sh.gA K "Settled")) = true) ∧ (PySem.W.findIn K (.ref (Sh.gA K "Settled")) "__ne__" = some (some (.builtin "object.__ne__"))) ∧ (PySem.W.subIn K (.ref (Sh.gA K "Settled")) (.type "object") = some true) ∧ (PySem.W.subIn K (.type "int") (.ref (Sh.gA K "Settled")) = some false) ∧ (PySem.W.subIn K (.type "tuple") (.ref (Sh.gA K "Settled")) = some false) ∧ (PySem.W.findIn K (.ref (Sh.gA K "Settled")) "__class__" = some (some (.builtin "object.__class__"))) := by
  unfold gr8 at h
  obtain ⟨h0, h⟩ := Sh.band h
  obtain ⟨h1, h⟩ := Sh.band h
  obtain ⟨h2, h⟩ := Sh.band h
  obtain ⟨h3, h⟩ := Sh.band h
  obtain ⟨h4, h⟩ := Sh.band h
  obtain ⟨h5, h⟩ := Sh.band h
  obtain ⟨h6, h⟩ := Sh.band h
  obtain ⟨h7, h⟩ := Sh.band h
  obtain ⟨h8, h⟩ := Sh.band h
  obtain ⟨h9, h⟩ := Sh.band h
  obtain ⟨h10, h⟩ := Sh.band h
  exact ⟨of_decide_eq_true h0, of_decide_eq_true h1, of_decide_eq_true h2, of_decide_eq_true h3, of_decide_eq_true h4, of_decide_eq_true h5, of_decide_eq_true h6, of_decide_eq_true h7, of_decide_eq_true h8, of_decide_eq_true h9, of_decide_eq_true h10, of_decide_eq_true h⟩
def gr9 (K : PySem.W.Frag) : Bool := decide (PySem.W.specialIn K (.builtin "object.__class__") "__get__" = some (some (.builtin "getset_descriptor.__get__"))) && (decide (PySem.W.takesIn K (.builtin "object.__class__") = some true) && (decide (PySem.W.mroIn K (Sh.gA K "Settled") (.type "object") = some true) && (decide (PySem.W.isClsIn K (Sh.gA K "Settled") = true) && (decide (PySem.W.typeIn K (.ref (Sh.gA K "Settled")) = some (.type "type")) && (decide (PySem.W.subIn K (.ref (Sh.gA K "Unsettled")) (.ref (Sh.gA K "Settled")) = some false) && (decide (((Sh.gA K "Unsettled") == (Sh.gA K "Settled")) = false) && (decide (PySem.W.plainGet K (Sh.gA K "Unsettled") Str.empty = true) && (decide (PySem.W.hasDictIn K (Sh.gA K "Unsettled") = true) && (decide (PySem.W.plainOver K (Sh.gA K "Unsettled") = true) && (decide (PySem.W.findIn K (.ref (Sh.gA K "Unsettled")) "__setattr__" = some (some (.builtin "object.__setattr__"))) && (decide (PySem.W.findIn K (.ref (Sh.gA K "Unsettled")) "row" = some none))))))))))))
theorem gr9_ok {K : PySem.W.Frag} (h : gr9 K = true) : (PySem.W.specialIn K (.builtin "object.__class__") "__get__" = some (some (.builtin "getset_descriptor.__get__"))) ∧ (PySem.W.takesIn K (.builtin "object.__class__") = some true) ∧ (PySem.W.mroIn K (Sh.gA K "Settled") (.type "object") = some true) ∧ (PySem.W.isClsIn K (Sh.gA K "Settled") = true) ∧ (PySem.W.typeIn K (.ref (Sh.gA K "Settled")) = some (.type "type")) ∧ (PySem.W.subIn K (.ref (Sh.gA K "Unsettled")) (.ref (Sh.gA K "Settled")) = some false) ∧ (((Sh.gA K "Unsettled") == (Sh.gA K "Settled")) = false) ∧ (PySem.W.plainGet K (Sh.gA K "Unsettled") Str.empty = true) ∧ (PySem.W.hasDictIn K (Sh.gA K "Unsettled") = true) ∧ (PySem.W.plainOver K (Sh.gA K "Unsettled") = true) ∧ (PySem.W.findIn K (.ref (Sh.gA K "Unsettled")) "__setattr__" = some (some (.builtin "object.__setattr__"))) ∧ (PySem.W.findIn K (.ref (Sh.gA K "Unsettled")) "row" = some none) := by
  unfold gr9 at h
  obtain ⟨h0, h⟩ := Sh.band h
  obtain ⟨h1, h⟩ := Sh.band h
  obtain ⟨h2, h⟩ := Sh.band h
  obtain ⟨h3, h⟩ := Sh.band h
  obtain ⟨h4, h⟩ := Sh.band h
  obtain ⟨h5, h⟩ := Sh.band h
  obtain ⟨h6, h⟩ := Sh.band h
  obtain ⟨h7, h⟩ := Sh.band h
  obtain ⟨h8, h⟩ := Sh.band h
  obtain ⟨h9, h⟩ := Sh.band h
  obtain ⟨h10, h⟩ := Sh.band h
  exact ⟨of_decide_eq_true h0, of_decide_eq_true h1, of_decide_eq_true h2, of_decide_eq_true h3, of_decide_eq_true h4, of_decide_eq_true h5, of_decide_eq_true h6, of_decide_eq_true h7, of_decide_eq_true h8, of_decide_eq_true h9, of_decide_eq_true h10, of_decide_eq_true h⟩
def gr10 (K : PySem.W.Frag) : Bool := decide (PySem.W.makesIn K (Sh.gA K "Unsettled") = true) && (decide (PySem.W.keepIn K (.ref (Sh.gA K "Unsettled")) = true) && (decide (PySem.W.findIn K (.ref (Sh.gA K "Unsettled")) "__ne__" = some (some (.builtin "object.__ne__"))) && (decide (PySem.W.subIn K (.ref (Sh.gA K "Unsettled")) (.type "object") = some true) && (decide (PySem.W.subIn K (.type "int") (.ref (Sh.gA K "Unsettled")) = some false) && (decide (PySem.W.subIn K (.type "tuple") (.ref (Sh.gA K "Unsettled")) = some false) && (decide (PySem.W.findIn K (.ref (Sh.gA K "Unsettled")) "__class__" = some (some (.builtin "object.__class__"))) && (decide (PySem.W.specialIn K (.builtin "object.__class__") "__get__" = some (some (.builtin "getset_descriptor.__get__"))) && (decide (PySem.W.takesIn K (.builtin "object.__class__") = some true) && (decide (PySem.W.mroIn K (Sh.gA K "Unsettled") (.type "object") = some true) && (decide (PySem.W.isClsIn K (Sh.gA K "Unsettled") = true) && (decide (PySem.W.typeIn K (.ref (Sh.gA K "Unsettled")) = some (.type "type")))))))))))))
theorem gr10_ok {K : PySem.W.Frag} (h : gr10 K = true) : (PySem.W.makesIn K (Sh.gA K "Unsettled") = true) ∧ (PySem.W.keepIn K (.ref (Sh.gA K "Unsettled")) = true) ∧ (PySem.W.findIn K (.ref (Sh.gA K "Unsettled")) "__ne__" = some (some (.builtin "object.__ne__"))) ∧ (PySem.W.subIn K (.ref (Sh.gA K "Unsettled")) (.type "object") = some true) ∧ (PySem.W.subIn K (.type "int") (.ref (Sh.gA K "Unsettled")) = some false) ∧ (PySem.W.subIn K (.type "tuple") (.ref (Sh.gA K "Unsettled")) = some false) ∧ (PySem.W.findIn K (.ref (Sh.gA K "Unsettled")) "__class__" = some (some (.builtin "object.__class__"))) ∧ (PySem.W.specialIn K (.builtin "object.__class__") "__get__" = some (some (.builtin "getset_descriptor.__get__"))) ∧ (PySem.W.takesIn K (.builtin "object.__class__") = some true) ∧ (PySem.W.mroIn K (Sh.gA K "Unsettled") (.type "object") = some true) ∧ (PySem.W.isClsIn K (Sh.gA K "Unsettled") = true) ∧ (PySem.W.typeIn K (.ref (Sh.gA K "Unsettled")) = some (.type "type")) := by
  unfold gr10 at h
  obtain ⟨h0, h⟩ := Sh.band h
  obtain ⟨h1, h⟩ := Sh.band h
  obtain ⟨h2, h⟩ := Sh.band h
  obtain ⟨h3, h⟩ := Sh.band h
  obtain ⟨h4, h⟩ := Sh.band h
  obtain ⟨h5, h⟩ := Sh.band h
  obtain ⟨h6, h⟩ := Sh.band h
  obtain ⟨h7, h⟩ := Sh.band h
  obtain ⟨h8, h⟩ := Sh.band h
  obtain ⟨h9, h⟩ := Sh.band h
  obtain ⟨h10, h⟩ := Sh.band h
  exact ⟨of_decide_eq_true h0, of_decide_eq_true h1, of_decide_eq_true h2, of_decide_eq_true h3, of_decide_eq_true h4, of_decide_eq_true h5, of_decide_eq_true h6, of_decide_eq_true h7, of_decide_eq_true h8, of_decide_eq_true h9, of_decide_eq_true h10, of_decide_eq_true h⟩
def gr11 (K : PySem.W.Frag) : Bool := decide (PySem.W.subIn K (.ref (Sh.gA K "Settled")) (.ref (Sh.gA K "Unsettled")) = some false) && (decide (((Sh.gA K "Settled") == (Sh.gA K "Unsettled")) = false) && (Sh.fnB K (Sh.gA K "is_integer") "is_integer" false && (Sh.fnB K (Sh.gA K "is_integer_from") "is_integer_from" false && (Sh.fnB K (Sh.gA K "is_key") "is_key" false && (Sh.fnB K (Sh.gA K "check_arms") "check_arms" false && (Sh.fnB K (Sh.gA K "check_many") "check_many" false && (Sh.fnB K (Sh.gA K "check_place") "check_place" false && (Sh.fnB K (Sh.gA K "row_of") "row_of" false && (Sh.fnB K (Sh.gA K "is_set_of_places") "is_set_of_places" false && (Sh.fnB K (Sh.mA K (Sh.gA K "Tree") "__init__") "Tree.__init__" true && (Sh.fnB K (Sh.recA K (Sh.clsA K (Sh.gA K "Tree") "of") "classmethod") "Tree.of" true)))))))))))
theorem gr11_ok {K : PySem.W.Frag} (h : gr11 K = true) : (PySem.W.subIn K (.ref (Sh.gA K "Settled")) (.ref (Sh.gA K "Unsettled")) = some false) ∧ (((Sh.gA K "Settled") == (Sh.gA K "Unsettled")) = false) ∧ (Sh.fnB K (Sh.gA K "is_integer") "is_integer" false = true) ∧ (Sh.fnB K (Sh.gA K "is_integer_from") "is_integer_from" false = true) ∧ (Sh.fnB K (Sh.gA K "is_key") "is_key" false = true) ∧ (Sh.fnB K (Sh.gA K "check_arms") "check_arms" false = true) ∧ (Sh.fnB K (Sh.gA K "check_many") "check_many" false = true) ∧ (Sh.fnB K (Sh.gA K "check_place") "check_place" false = true) ∧ (Sh.fnB K (Sh.gA K "row_of") "row_of" false = true) ∧ (Sh.fnB K (Sh.gA K "is_set_of_places") "is_set_of_places" false = true) ∧ (Sh.fnB K (Sh.mA K (Sh.gA K "Tree") "__init__") "Tree.__init__" true = true) ∧ (Sh.fnB K (Sh.recA K (Sh.clsA K (Sh.gA K "Tree") "of") "classmethod") "Tree.of" true = true) := by
  unfold gr11 at h
  obtain ⟨h0, h⟩ := Sh.band h
  obtain ⟨h1, h⟩ := Sh.band h
  obtain ⟨h2, h⟩ := Sh.band h
  obtain ⟨h3, h⟩ := Sh.band h
  obtain ⟨h4, h⟩ := Sh.band h
  obtain ⟨h5, h⟩ := Sh.band h
  obtain ⟨h6, h⟩ := Sh.band h
  obtain ⟨h7, h⟩ := Sh.band h
  obtain ⟨h8, h⟩ := Sh.band h
  obtain ⟨h9, h⟩ := Sh.band h
  obtain ⟨h10, h⟩ := Sh.band h
  exact ⟨of_decide_eq_true h0, of_decide_eq_true h1, h2, h3, h4, h5, h6, h7, h8, h9, h10, h⟩
def gr12 (K : PySem.W.Frag) : Bool := Sh.fnB K (Sh.mA K (Sh.gA K "Tree") "__len__") "Tree.__len__" false && (Sh.fnB K (Sh.mA K (Sh.gA K "Tree") "__iter__") "Tree.__iter__" false && (Sh.fnB K (Sh.mA K (Sh.gA K "Tree") "__getitem__") "Tree.__getitem__" false && (Sh.fnB K (Sh.mA K (Sh.gA K "Tree") "parent") "Tree.parent" false && (Sh.fnB K (Sh.gA K "is_heap") "is_heap" true && (Sh.fnB K (Sh.gA K "faults") "faults" true && (Sh.fnB K (Sh.gA K "heap_of") "heap_of" false && (Sh.fnB K (Sh.gA K "check_count") "check_count" false && (Sh.fnB K (Sh.mA K (Sh.gA K "Settled") "__init__") "Settled.__init__" false && (Sh.fnB K (Sh.mA K (Sh.gA K "Settled") "__eq__") "Settled.__eq__" false && (Sh.fnB K (Sh.mA K (Sh.gA K "Settled") "shows") "Settled.shows" true && (Sh.fnB K (Sh.mA K (Sh.gA K "Unsettled") "__init__") "Unsettled.__init__" false)))))))))))
theorem gr12_ok {K : PySem.W.Frag} (h : gr12 K = true) : (Sh.fnB K (Sh.mA K (Sh.gA K "Tree") "__len__") "Tree.__len__" false = true) ∧ (Sh.fnB K (Sh.mA K (Sh.gA K "Tree") "__iter__") "Tree.__iter__" false = true) ∧ (Sh.fnB K (Sh.mA K (Sh.gA K "Tree") "__getitem__") "Tree.__getitem__" false = true) ∧ (Sh.fnB K (Sh.mA K (Sh.gA K "Tree") "parent") "Tree.parent" false = true) ∧ (Sh.fnB K (Sh.gA K "is_heap") "is_heap" true = true) ∧ (Sh.fnB K (Sh.gA K "faults") "faults" true = true) ∧ (Sh.fnB K (Sh.gA K "heap_of") "heap_of" false = true) ∧ (Sh.fnB K (Sh.gA K "check_count") "check_count" false = true) ∧ (Sh.fnB K (Sh.mA K (Sh.gA K "Settled") "__init__") "Settled.__init__" false = true) ∧ (Sh.fnB K (Sh.mA K (Sh.gA K "Settled") "__eq__") "Settled.__eq__" false = true) ∧ (Sh.fnB K (Sh.mA K (Sh.gA K "Settled") "shows") "Settled.shows" true = true) ∧ (Sh.fnB K (Sh.mA K (Sh.gA K "Unsettled") "__init__") "Unsettled.__init__" false = true) := by
  unfold gr12 at h
  obtain ⟨h0, h⟩ := Sh.band h
  obtain ⟨h1, h⟩ := Sh.band h
  obtain ⟨h2, h⟩ := Sh.band h
  obtain ⟨h3, h⟩ := Sh.band h
  obtain ⟨h4, h⟩ := Sh.band h
  obtain ⟨h5, h⟩ := Sh.band h
  obtain ⟨h6, h⟩ := Sh.band h
  obtain ⟨h7, h⟩ := Sh.band h
  obtain ⟨h8, h⟩ := Sh.band h
  obtain ⟨h9, h⟩ := Sh.band h
  obtain ⟨h10, h⟩ := Sh.band h
  exact ⟨h0, h1, h2, h3, h4, h5, h6, h7, h8, h9, h10, h⟩
def gr13 (K : PySem.W.Frag) : Bool := Sh.fnB K (Sh.mA K (Sh.gA K "Unsettled") "__eq__") "Unsettled.__eq__" false && (Sh.fnB K (Sh.mA K (Sh.gA K "Unsettled") "shows") "Unsettled.shows" true && (Sh.fnB K (Sh.gA K "judge_places") "judge_places" true && (Sh.fnB K (Sh.gA K "does_settle") "does_settle" true && (Sh.fnB K (Sh.gA K "counted_heap_of") "counted_heap_of" false && (Sh.fnB K (Sh.gA K "heap_of_places") "heap_of_places" false && (Sh.fnB K (Sh.gA K "row_with_least") "row_with_least" false && (Sh.fnB K (Sh.gA K "row_with_greatest") "row_with_greatest" false && (Sh.fnB K (Sh.gA K "_law_number") "_law_number" false && (Sh.fnB K (Sh.gA K "_law_heap") "_law_heap" false && (Sh.fnB K (Sh.gA K "_law_sets") "_law_sets" false && (Sh.fnB K (Sh.gA K "_law_rows") "_law_rows" false)))))))))))
theorem gr13_ok {K : PySem.W.Frag} (h : gr13 K = true) : (Sh.fnB K (Sh.mA K (Sh.gA K "Unsettled") "__eq__") "Unsettled.__eq__" false = true) ∧ (Sh.fnB K (Sh.mA K (Sh.gA K "Unsettled") "shows") "Unsettled.shows" true = true) ∧ (Sh.fnB K (Sh.gA K "judge_places") "judge_places" true = true) ∧ (Sh.fnB K (Sh.gA K "does_settle") "does_settle" true = true) ∧ (Sh.fnB K (Sh.gA K "counted_heap_of") "counted_heap_of" false = true) ∧ (Sh.fnB K (Sh.gA K "heap_of_places") "heap_of_places" false = true) ∧ (Sh.fnB K (Sh.gA K "row_with_least") "row_with_least" false = true) ∧ (Sh.fnB K (Sh.gA K "row_with_greatest") "row_with_greatest" false = true) ∧ (Sh.fnB K (Sh.gA K "_law_number") "_law_number" false = true) ∧ (Sh.fnB K (Sh.gA K "_law_heap") "_law_heap" false = true) ∧ (Sh.fnB K (Sh.gA K "_law_sets") "_law_sets" false = true) ∧ (Sh.fnB K (Sh.gA K "_law_rows") "_law_rows" false = true) := by
  unfold gr13 at h
  obtain ⟨h0, h⟩ := Sh.band h
  obtain ⟨h1, h⟩ := Sh.band h
  obtain ⟨h2, h⟩ := Sh.band h
  obtain ⟨h3, h⟩ := Sh.band h
  obtain ⟨h4, h⟩ := Sh.band h
  obtain ⟨h5, h⟩ := Sh.band h
  obtain ⟨h6, h⟩ := Sh.band h
  obtain ⟨h7, h⟩ := Sh.band h
  obtain ⟨h8, h⟩ := Sh.band h
  obtain ⟨h9, h⟩ := Sh.band h
  obtain ⟨h10, h⟩ := Sh.band h
  exact ⟨h0, h1, h2, h3, h4, h5, h6, h7, h8, h9, h10, h⟩
def gr14 (K : PySem.W.Frag) : Bool := Sh.fnB K (Sh.gA K "_law_changed") "_law_changed" false && (Sh.fnB K (Sh.gA K "_law_due") "_law_due" false && (Sh.fnB K (Sh.gA K "_law_right") "_law_right" false && (Sh.fnB K (Sh.gA K "law") "law" false)))
theorem gr14_ok {K : PySem.W.Frag} (h : gr14 K = true) : (Sh.fnB K (Sh.gA K "_law_changed") "_law_changed" false = true) ∧ (Sh.fnB K (Sh.gA K "_law_due") "_law_due" false = true) ∧ (Sh.fnB K (Sh.gA K "_law_right") "_law_right" false = true) ∧ (Sh.fnB K (Sh.gA K "law") "law" false = true) := by
  unfold gr14 at h
  obtain ⟨h0, h⟩ := Sh.band h
  obtain ⟨h1, h⟩ := Sh.band h
  obtain ⟨h2, h⟩ := Sh.band h
  exact ⟨h0, h1, h2, h⟩
def exs (K : PySem.W.Frag) : Bool := gr0 K && (gr1 K && (gr2 K && (gr3 K && (gr4 K && (gr5 K && (gr6 K && (gr7 K && (gr8 K && (gr9 K && (gr10 K && (gr11 K && (gr12 K && (gr13 K && (gr14 K))))))))))))))
def tfs (K : PySem.W.Frag) : List (Addr × Addr) := []
def loose : List Str := (["_wall", "__name__", "HeapError", "BadArms", "BadMany", "BadPlace", "BadRow", "NotHeap", "BadSet", "BadNumber", "MOST_ARMS", "MOST_PLACES", "GREATEST_KEY", "is_integer", "is_integer_from", "is_key", "check_arms", "check_many", "check_place", "row_of", "is_set_of_places", "Tree", "is_heap", "faults", "heap_of", "check_count", "Settled", "Unsettled", "judge_places", "does_settle"] : List Str) ++ (["counted_heap_of", "heap_of_places", "row_with_least", "row_with_greatest", "_law_number", "_law_heap", "_law_sets", "_law_rows", "_law_changed", "_law_due", "_law_right"] : List Str)
def adr : List Addr := List.range 1000
abbrev hk : PySem.W.Hook := Sh.hook adr fns exs tfs
theorem run (w : World) : HandSHeadRun.RunEq R0 (PySem.W.view R0.prog [47]) hk (Sh.obT adr fns exs tfs) 20000 loose w := by
  intro os
  kernel_rfl
theorem law_at {w : World} {h : Heap} {mg : Str → Option Value} {fa : Addr} {K : PySem.W.Frag} (X : K.In h) (c : Sh.Tells fns exs tfs h K) (G : h.Ns mainGlobals mg) (hfa : mg "law" = some (.ref fa)) : ∃ fd : FuncData, (∀ (s : Shared) (v : Value), BindsTo s fd ⟨[v], []⟩ [("script", v)]) ∧ ∀ base : Heap, K.In base → base.Ns mainGlobals mg → FnOk (PySem.Challenge.rw_heaprows_k68_whole_settled).prog w K mg base CX0 14 fa fd ["script"] (spLaw K) := by
  have h := c.ex
  unfold exs at h
  obtain ⟨e0, h⟩ := Sh.band h
  obtain ⟨e1, h⟩ := Sh.band h
  obtain ⟨e2, h⟩ := Sh.band h
  obtain ⟨e3, h⟩ := Sh.band h
  obtain ⟨e4, h⟩ := Sh.band h
  obtain ⟨e5, h⟩ := Sh.band h
  obtain ⟨e6, h⟩ := Sh.band h
  obtain ⟨e7, h⟩ := Sh.band h
  obtain ⟨e8, h⟩ := Sh.band h
  obtain ⟨e9, h⟩ := Sh.band h
  obtain ⟨e10, h⟩ := Sh.band h
  obtain ⟨e11, h⟩ := Sh.band h
  obtain ⟨e12, h⟩ := Sh.band h
  obtain ⟨e13, h⟩ := Sh.band h
  obtain ⟨h_aC, h_aCG, h_aCU, h_a_is_integer, h_a_is_integer_from, h_a_is_key, h_a_check_arms, h_a_check_many, h_a_check_place, h_a_row_of, h_a_is_set_of_places, h_a_t___init__⟩ := gr0_ok e0
  obtain ⟨h_i_t___init__, h_w_t___init__, h_a_t_of, h_r_t_of, h_n_t_of, h_w_t_of, h_a_t___len__, h_i_t___len__, h_n_t___len__, h_a_t___iter__, h_i_t___iter__, h_n_t___iter__⟩ := gr1_ok e1
  obtain ⟨h_a_t___getitem__, h_i_t___getitem__, h_n_t___getitem__, h_a_t_parent, h_i_t_parent, h_a_is_heap, h_w_is_heap, h_a_faults, h_w_faults, h_a_heap_of, h_a_check_count, h_a_g___init__⟩ := gr2_ok e2
  obtain ⟨h_i_g___init__, h_a_g___eq__, h_i_g___eq__, h_a_g_shows, h_i_g_shows, h_w_g_shows, h_a_u___init__, h_i_u___init__, h_a_u___eq__, h_i_u___eq__, h_a_u_shows, h_i_u_shows⟩ := gr3_ok e3
  obtain ⟨h_w_u_shows, h_a_judge_places, h_w_judge_places, h_a_does_settle, h_w_does_settle, h_a_counted_heap_of, h_a_heap_of_places, h_a_row_with_least, h_a_row_with_greatest, h_a__law_number, h_a__law_heap, h_a__law_sets⟩ := gr4_ok e4
  obtain ⟨h_a__law_rows, h_a__law_changed, h_a__law_due, h_a__law_right, h_a_law, h_q_GREATEST_KEY, h_q_MOST_ARMS, h_q_MOST_PLACES, h_z_all, h_z_any, h_z_bool, h_z_enumerate⟩ := gr5_ok e5
  obtain ⟨h_z_int, h_z_isinstance, h_z_iter, h_z_len, h_z_list, h_z_max, h_z_min, h_z_range, h_z_reversed, h_z_set, h_z_sorted, h_z_sum⟩ := gr6_ok e6
  obtain ⟨h_z_tuple, h_pg, h_hd, h_po_, h_sa, h_na_nMany, h_na_nArms, h_na_nPl, h_mk, h_kc, h_rd, h_ga⟩ := gr7_ok e7
  obtain ⟨h_pgG, h_hdG, h_po_G, h_saG, h_na_gLeast, h_mkG, h_kcG, h_eneG, h_eobG, h_eniG, h_entG, h_kaG⟩ := gr8_ok e8
  obtain ⟨h_knG, h_ktkG, h_kmG, h_kclG, h_ktyG, h_ensG_Unsettled, h_nesG_Unsettled, h_pgU, h_hdU, h_po_U, h_saU, h_na_uRow⟩ := gr9_ok e9
  obtain ⟨h_mkU, h_kcU, h_eneU, h_eobU, h_eniU, h_entU, h_kaU, h_knU, h_ktkU, h_kmU, h_kclU, h_ktyU⟩ := gr10_ok e10
  obtain ⟨h_ensU_Settled, h_nesU_Settled, h_b_is_integer, h_b_is_integer_from, h_b_is_key, h_b_check_arms, h_b_check_many, h_b_check_place, h_b_row_of, h_b_is_set_of_places, h_b_t___init__, h_b_t_of⟩ := gr11_ok e11
  obtain ⟨h_b_t___len__, h_b_t___iter__, h_b_t___getitem__, h_b_t_parent, h_b_is_heap, h_b_faults, h_b_heap_of, h_b_check_count, h_b_g___init__, h_b_g___eq__, h_b_g_shows, h_b_u___init__⟩ := gr12_ok e12
  obtain ⟨h_b_u___eq__, h_b_u_shows, h_b_judge_places, h_b_does_settle, h_b_counted_heap_of, h_b_heap_of_places, h_b_row_with_least, h_b_row_with_greatest, h_b__law_number, h_b__law_heap, h_b__law_sets, h_b__law_rows⟩ := gr13_ok e13
  obtain ⟨h_b__law_changed, h_b__law_due, h_b__law_right, h_b_law⟩ := gr14_ok h
  obtain ⟨_, _, _, _, _, _, _, _, _, h_l_is_integer, h_c_is_integer, h_k_is_integer⟩ := Sh.fn_g (d := q_is_integer) (p := (Sh.gA K "is_integer")) (c.fn q_is_integer (Sh.at_ 0 rfl)) h_b_is_integer
  obtain ⟨_, _, _, _, _, _, _, _, _, h_l_is_integer_from, h_c_is_integer_from, h_k_is_integer_from⟩ := Sh.fn_g (d := q_is_integer_from) (p := (Sh.gA K "is_integer_from")) (c.fn q_is_integer_from (Sh.at_ 1 rfl)) h_b_is_integer_from
  obtain ⟨_, _, _, _, _, _, _, _, _, h_l_is_key, h_c_is_key, h_k_is_key⟩ := Sh.fn_g (d := q_is_key) (p := (Sh.gA K "is_key")) (c.fn q_is_key (Sh.at_ 2 rfl)) h_b_is_key
  obtain ⟨_, _, _, _, _, _, _, _, _, h_l_check_arms, h_c_check_arms, h_k_check_arms⟩ := Sh.fn_g (d := q_check_arms) (p := (Sh.gA K "check_arms")) (c.fn q_check_arms (Sh.at_ 3 rfl)) h_b_check_arms
  obtain ⟨_, _, _, _, _, _, _, _, _, h_l_check_many, h_c_check_many, h_k_check_many⟩ := Sh.fn_g (d := q_check_many) (p := (Sh.gA K "check_many")) (c.fn q_check_many (Sh.at_ 4 rfl)) h_b_check_many
  obtain ⟨_, _, _, _, _, _, _, _, _, h_l_check_place, h_c_check_place, h_k_check_place⟩ := Sh.fn_g (d := q_check_place) (p := (Sh.gA K "check_place")) (c.fn q_check_place (Sh.at_ 5 rfl)) h_b_check_place
  obtain ⟨_, _, _, _, _, _, _, _, _, h_l_row_of, h_c_row_of, h_k_row_of⟩ := Sh.fn_g (d := q_row_of) (p := (Sh.gA K "row_of")) (c.fn q_row_of (Sh.at_ 6 rfl)) h_b_row_of
  obtain ⟨_, _, _, _, _, _, _, _, _, h_l_is_set_of_places, h_c_is_set_of_places, h_k_is_set_of_places⟩ := Sh.fn_g (d := q_is_set_of_places) (p := (Sh.gA K "is_set_of_places")) (c.fn q_is_set_of_places (Sh.at_ 7 rfl)) h_b_is_set_of_places
  obtain ⟨_, _, _, _, _, _, _, _, h_l_t___init__, h_c_t___init__, h_k_t___init__⟩ := Sh.fn_k (d := q_t___init__) (p := (Sh.mA K (Sh.gA K "Tree") "__init__")) (c.fn q_t___init__ (Sh.at_ 8 rfl)) h_b_t___init__
  obtain ⟨_, _, _, _, _, _, _, _, h_l_t_of, h_c_t_of, h_k_t_of⟩ := Sh.fn_k (d := q_t_of) (p := (Sh.recA K (Sh.clsA K (Sh.gA K "Tree") "of") "classmethod")) (c.fn q_t_of (Sh.at_ 9 rfl)) h_b_t_of
  obtain ⟨_, _, _, _, _, _, _, _, _, h_l_t___len__, h_c_t___len__, h_k_t___len__⟩ := Sh.fn_g (d := q_t___len__) (p := (Sh.mA K (Sh.gA K "Tree") "__len__")) (c.fn q_t___len__ (Sh.at_ 10 rfl)) h_b_t___len__
  obtain ⟨_, _, _, _, _, _, _, _, _, h_l_t___iter__, h_c_t___iter__, h_k_t___iter__⟩ := Sh.fn_g (d := q_t___iter__) (p := (Sh.mA K (Sh.gA K "Tree") "__iter__")) (c.fn q_t___iter__ (Sh.at_ 11 rfl)) h_b_t___iter__
  obtain ⟨_, _, _, _, _, _, _, _, _, h_l_t___getitem__, h_c_t___getitem__, h_k_t___getitem__⟩ := Sh.fn_g (d := q_t___getitem__) (p := (Sh.mA K (Sh.gA K "Tree") "__getitem__")) (c.fn q_t___getitem__ (Sh.at_ 12 rfl)) h_b_t___getitem__
  obtain ⟨_, _, _, _, _, _, _, _, _, h_l_t_parent, h_c_t_parent, h_k_t_parent⟩ := Sh.fn_g (d := q_t_parent) (p := (Sh.mA K (Sh.gA K "Tree") "parent")) (c.fn q_t_parent (Sh.at_ 13 rfl)) h_b_t_parent
  obtain ⟨_, _, _, _, _, _, _, _, h_l_is_heap, h_c_is_heap, h_k_is_heap⟩ := Sh.fn_k (d := q_is_heap) (p := (Sh.gA K "is_heap")) (c.fn q_is_heap (Sh.at_ 14 rfl)) h_b_is_heap
  obtain ⟨_, _, _, _, _, _, _, _, h_l_faults, h_c_faults, h_k_faults⟩ := Sh.fn_k (d := q_faults) (p := (Sh.gA K "faults")) (c.fn q_faults (Sh.at_ 15 rfl)) h_b_faults
  obtain ⟨_, _, _, _, _, _, _, _, _, h_l_heap_of, h_c_heap_of, h_k_heap_of⟩ := Sh.fn_g (d := q_heap_of) (p := (Sh.gA K "heap_of")) (c.fn q_heap_of (Sh.at_ 16 rfl)) h_b_heap_of
  obtain ⟨_, _, _, _, _, _, _, _, _, h_l_check_count, h_c_check_count, h_k_check_count⟩ := Sh.fn_g (d := q_check_count) (p := (Sh.gA K "check_count")) (c.fn q_check_count (Sh.at_ 17 rfl)) h_b_check_count
  obtain ⟨_, _, _, _, _, _, _, _, _, h_l_g___init__, h_c_g___init__, h_k_g___init__⟩ := Sh.fn_g (d := q_g___init__) (p := (Sh.mA K (Sh.gA K "Settled") "__init__")) (c.fn q_g___init__ (Sh.at_ 18 rfl)) h_b_g___init__
  obtain ⟨_, _, _, _, _, _, _, _, _, h_l_g___eq__, h_c_g___eq__, h_k_g___eq__⟩ := Sh.fn_g (d := q_g___eq__) (p := (Sh.mA K (Sh.gA K "Settled") "__eq__")) (c.fn q_g___eq__ (Sh.at_ 19 rfl)) h_b_g___eq__
  obtain ⟨_, _, _, _, _, _, _, _, h_l_g_shows, h_c_g_shows, h_k_g_shows⟩ := Sh.fn_k (d := q_g_shows) (p := (Sh.mA K (Sh.gA K "Settled") "shows")) (c.fn q_g_shows (Sh.at_ 20 rfl)) h_b_g_shows
  obtain ⟨_, _, _, _, _, _, _, _, _, h_l_u___init__, h_c_u___init__, h_k_u___init__⟩ := Sh.fn_g (d := q_u___init__) (p := (Sh.mA K (Sh.gA K "Unsettled") "__init__")) (c.fn q_u___init__ (Sh.at_ 21 rfl)) h_b_u___init__
  obtain ⟨_, _, _, _, _, _, _, _, _, h_l_u___eq__, h_c_u___eq__, h_k_u___eq__⟩ := Sh.fn_g (d := q_u___eq__) (p := (Sh.mA K (Sh.gA K "Unsettled") "__eq__")) (c.fn q_u___eq__ (Sh.at_ 22 rfl)) h_b_u___eq__
  obtain ⟨_, _, _, _, _, _, _, _, h_l_u_shows, h_c_u_shows, h_k_u_shows⟩ := Sh.fn_k (d := q_u_shows) (p := (Sh.mA K (Sh.gA K "Unsettled") "shows")) (c.fn q_u_shows (Sh.at_ 23 rfl)) h_b_u_shows
  obtain ⟨_, _, _, _, _, _, _, _, h_l_judge_places, h_c_judge_places, h_k_judge_places⟩ := Sh.fn_k (d := q_judge_places) (p := (Sh.gA K "judge_places")) (c.fn q_judge_places (Sh.at_ 24 rfl)) h_b_judge_places
  obtain ⟨_, _, _, _, _, _, _, _, h_l_does_settle, h_c_does_settle, h_k_does_settle⟩ := Sh.fn_k (d := q_does_settle) (p := (Sh.gA K "does_settle")) (c.fn q_does_settle (Sh.at_ 25 rfl)) h_b_does_settle
  obtain ⟨_, _, _, _, _, _, _, _, _, h_l_counted_heap_of, h_c_counted_heap_of, h_k_counted_heap_of⟩ := Sh.fn_g (d := q_counted_heap_of) (p := (Sh.gA K "counted_heap_of")) (c.fn q_counted_heap_of (Sh.at_ 26 rfl)) h_b_counted_heap_of
  obtain ⟨_, _, _, _, _, _, _, _, _, h_l_heap_of_places, h_c_heap_of_places, h_k_heap_of_places⟩ := Sh.fn_g (d := q_heap_of_places) (p := (Sh.gA K "heap_of_places")) (c.fn q_heap_of_places (Sh.at_ 27 rfl)) h_b_heap_of_places
  obtain ⟨_, _, _, _, _, _, _, _, _, h_l_row_with_least, h_c_row_with_least, h_k_row_with_least⟩ := Sh.fn_g (d := q_row_with_least) (p := (Sh.gA K "row_with_least")) (c.fn q_row_with_least (Sh.at_ 28 rfl)) h_b_row_with_least
  obtain ⟨_, _, _, _, _, _, _, _, _, h_l_row_with_greatest, h_c_row_with_greatest, h_k_row_with_greatest⟩ := Sh.fn_g (d := q_row_with_greatest) (p := (Sh.gA K "row_with_greatest")) (c.fn q_row_with_greatest (Sh.at_ 29 rfl)) h_b_row_with_greatest
  obtain ⟨_, _, _, _, _, _, _, _, _, h_l__law_number, h_c__law_number, h_k__law_number⟩ := Sh.fn_g (d := q__law_number) (p := (Sh.gA K "_law_number")) (c.fn q__law_number (Sh.at_ 30 rfl)) h_b__law_number
  obtain ⟨_, _, _, _, _, _, _, _, _, h_l__law_heap, h_c__law_heap, h_k__law_heap⟩ := Sh.fn_g (d := q__law_heap) (p := (Sh.gA K "_law_heap")) (c.fn q__law_heap (Sh.at_ 31 rfl)) h_b__law_heap
  obtain ⟨_, _, _, _, _, _, _, _, _, h_l__law_sets, h_c__law_sets, h_k__law_sets⟩ := Sh.fn_g (d := q__law_sets) (p := (Sh.gA K "_law_sets")) (c.fn q__law_sets (Sh.at_ 32 rfl)) h_b__law_sets
  obtain ⟨_, _, _, _, _, _, _, _, _, h_l__law_rows, h_c__law_rows, h_k__law_rows⟩ := Sh.fn_g (d := q__law_rows) (p := (Sh.gA K "_law_rows")) (c.fn q__law_rows (Sh.at_ 33 rfl)) h_b__law_rows
  obtain ⟨_, _, _, _, _, _, _, _, _, h_l__law_changed, h_c__law_changed, h_k__law_changed⟩ := Sh.fn_g (d := q__law_changed) (p := (Sh.gA K "_law_changed")) (c.fn q__law_changed (Sh.at_ 34 rfl)) h_b__law_changed
  obtain ⟨_, _, _, _, _, _, _, _, _, h_l__law_due, h_c__law_due, h_k__law_due⟩ := Sh.fn_g (d := q__law_due) (p := (Sh.gA K "_law_due")) (c.fn q__law_due (Sh.at_ 35 rfl)) h_b__law_due
  obtain ⟨_, _, _, _, _, _, _, _, _, h_l__law_right, h_c__law_right, h_k__law_right⟩ := Sh.fn_g (d := q__law_right) (p := (Sh.gA K "_law_right")) (c.fn q__law_right (Sh.at_ 36 rfl)) h_b__law_right
  obtain ⟨_, _, _, _, _, _, _, _, _, h_l_law, h_c_law, h_k_law⟩ := Sh.fn_g (d := q_law) (p := (Sh.gA K "law")) (c.fn q_law (Sh.at_ 37 rfl)) h_b_law
  exact all_mk X G hfa h_aC h_aCG h_aCU h_a_is_integer h_l_is_integer h_c_is_integer h_k_is_integer h_a_is_integer_from h_l_is_integer_from h_c_is_integer_from h_k_is_integer_from h_a_is_key h_l_is_key h_c_is_key h_k_is_key h_a_check_arms h_l_check_arms h_c_check_arms h_k_check_arms h_a_check_many h_l_check_many h_c_check_many h_k_check_many h_a_check_place h_l_check_place h_c_check_place h_k_check_place h_a_row_of h_l_row_of h_c_row_of h_k_row_of h_a_is_set_of_places h_l_is_set_of_places h_c_is_set_of_places h_k_is_set_of_places h_a_t___init__ h_i_t___init__ h_l_t___init__ h_c_t___init__ h_k_t___init__ h_w_t___init__ h_a_t_of h_r_t_of h_n_t_of h_l_t_of h_c_t_of h_k_t_of h_w_t_of h_a_t___len__ h_i_t___len__ h_n_t___len__ h_l_t___len__ h_c_t___len__ h_k_t___len__ h_a_t___iter__ h_i_t___iter__ h_n_t___iter__ h_l_t___iter__ h_c_t___iter__ h_k_t___iter__ h_a_t___getitem__ h_i_t___getitem__ h_n_t___getitem__ h_l_t___getitem__ h_c_t___getitem__ h_k_t___getitem__ h_a_t_parent h_i_t_parent h_l_t_parent h_c_t_parent h_k_t_parent h_a_is_heap h_l_is_heap h_c_is_heap h_k_is_heap h_w_is_heap h_a_faults h_l_faults h_c_faults h_k_faults h_w_faults h_a_heap_of h_l_heap_of h_c_heap_of h_k_heap_of h_a_check_count h_l_check_count h_c_check_count h_k_check_count h_a_g___init__ h_i_g___init__ h_l_g___init__ h_c_g___init__ h_k_g___init__ h_a_g___eq__ h_i_g___eq__ h_l_g___eq__ h_c_g___eq__ h_k_g___eq__ h_a_g_shows h_i_g_shows h_l_g_shows h_c_g_shows h_k_g_shows h_w_g_shows h_a_u___init__ h_i_u___init__ h_l_u___init__ h_c_u___init__ h_k_u___init__ h_a_u___eq__ h_i_u___eq__ h_l_u___eq__ h_c_u___eq__ h_k_u___eq__ h_a_u_shows h_i_u_shows h_l_u_shows h_c_u_shows h_k_u_shows h_w_u_shows h_a_judge_places h_l_judge_places h_c_judge_places h_k_judge_places h_w_judge_places h_a_does_settle h_l_does_settle h_c_does_settle h_k_does_settle h_w_does_settle h_a_counted_heap_of h_l_counted_heap_of h_c_counted_heap_of h_k_counted_heap_of h_a_heap_of_places h_l_heap_of_places h_c_heap_of_places h_k_heap_of_places h_a_row_with_least h_l_row_with_least h_c_row_with_least h_k_row_with_least h_a_row_with_greatest h_l_row_with_greatest h_c_row_with_greatest h_k_row_with_greatest h_a__law_number h_l__law_number h_c__law_number h_k__law_number h_a__law_heap h_l__law_heap h_c__law_heap h_k__law_heap h_a__law_sets h_l__law_sets h_c__law_sets h_k__law_sets h_a__law_rows h_l__law_rows h_c__law_rows h_k__law_rows h_a__law_changed h_l__law_changed h_c__law_changed h_k__law_changed h_a__law_due h_l__law_due h_c__law_due h_k__law_due h_a__law_right h_l__law_right h_c__law_right h_k__law_right h_a_law h_l_law h_c_law h_k_law h_q_GREATEST_KEY h_q_MOST_ARMS h_q_MOST_PLACES h_z_all h_z_any h_z_bool h_z_enumerate h_z_int h_z_isinstance h_z_iter h_z_len h_z_list h_z_max h_z_min h_z_range h_z_reversed h_z_set h_z_sorted h_z_sum h_z_tuple h_pg h_hd h_po_ h_sa h_na_nMany h_na_nArms h_na_nPl h_mk h_kc h_rd h_ga h_pgG h_hdG h_po_G h_saG h_na_gLeast h_mkG h_kcG h_eneG h_eobG h_eniG h_entG h_kaG h_knG h_ktkG h_kmG h_kclG h_ktyG h_ensG_Unsettled h_nesG_Unsettled h_pgU h_hdU h_po_U h_saU h_na_uRow h_mkU h_kcU h_eneU h_eobU h_eniU h_entU h_kaU h_knU h_ktkU h_kmU h_kclU h_ktyU h_ensU_Settled h_nesU_Settled
end Tw

open PySem PySem.W PySem.Calls PyProof.Rows in
set_option maxRecDepth 100000 in
set_option maxHeartbeats 0 in
theorem PySem.Challenge.cw_heaprows_k68_whole_settled_holds : PySem.Challenge.rw_heaprows_k68_whole_settled.Holds := by
  w_on; o_law
  refine HandSHeadRun.head_any (r := OpenLaw.row PySem.Challenge.rw_heaprows_k68_whole_settled) (q := view (OpenLaw.row PySem.Challenge.rw_heaprows_k68_whole_settled).prog [47]) (H := Tw.hk) (ob := Sh.obT Tw.adr Tw.fns Tw.exs Tw.tfs) (M := 20000) (loose := Tw.loose) (d := HandSHeadRun.topDef (OpenLaw.row PySem.Challenge.rw_heaprows_k68_whole_settled).prog 47) (kwd := []) (Sh.obT_eq _ _ _ _)
    (by kernel_rfl) (fun s => by kernel_rfl) Tw.run (by kernel_rfl) (by kernel_rfl) (by kernel_rfl) (by rfl) (by first | assumption | decide +kernel) (by decide +kernel) ⟨rfl, rfl, rfl, rfl, rfl, by decide +kernel⟩ ?hw ?hc
  case hw => w_witness2
  case hc =>
    refine L2.walk_ofE (l := PySem.Challenge.rw_heaprows_k68_whole_settled) (n := 63) (k := 14) (x := "script") (CX := L2.CX0) rfl (by decide) (by kernel_rfl) ⟨rfl, by decide, by decide⟩ ?F (fun _ _ _ _ z => z)
    intro w mg fa h Y G hmg0
    obtain ⟨K, KX, c⟩ := Y
    have hmg : mg ("law" : PySem.Str) = some (.ref fa) := (congrArg mg (show (HandSHeadRun.topDef (OpenLaw.row PySem.Challenge.rw_heaprows_k68_whole_settled).prog 47).name = ("law" : PySem.Str) by kernel_rfl)).symm.trans hmg0
    obtain ⟨fd, hb, hF⟩ := Tw.law_at KX c G hmg
    exact ⟨K, fd, Tw.spLaw K, KX, hb, fun H a ns hl _ hS => ⟨a, ns, rfl, hS, hl, fun _ => rfl⟩, hF⟩
