import PyProof.Rows.All
import Wide.All
import OpenK.AllK
import Wide.FinOn
import HandS.ForMost
import HandS.ForExc
import HandS.IsInst
import HandS.MakeKwOnly
import HandS.ClsMeth
import HandS.Conv
import HandS.Codes
import HandS.Walk
import HandS.Style
import HandS.Flow
import HandS.Wide
import HandS.OwnEq
import HandS.OwnIter
import HandS.IterVal
import KE.KOwnIter
import PyProof.FactsAll.tuple_iterator_1
import HandS.Deep
import HandS.SortRule
import KE.GoesMore
import KE.GoesEnum
import KE.KLam
import KE.DataMinKey
import HandS.Base
import HandS.Call
import HandS.List
import HandS.Comp
import HandS.Lambda
import HandS.Nested
import HandS.Keys
import HandS.SortInts
import PyProof.NeKinds
import HandS.SetFor
import HandS.Strs
import HandS.TupSets
import KE.SortData
import HandS.Gcd
import KE.KMathGC
import HandS.Sort
import PyProof.AutoSeq1
import KE.KTurns
import HandS.TupLe
import KE.KSortTup
import HandS.Defaults
import HandS.Zip
import HandS.TryOnly
import HandS.TupAny
import KE.DataFind
import PyProof.SumWalkG
import HandS.New0
import HandS.Property
import KE.DataMinMax
import HandS.ExcOwn
import HandS.ExcIs
import KE.KNestM
import HandS.EndTab
import HandS.Rev
import HandS.WordsExc
import PySem.Challenge.RW_heaprows_k74_undone
set_option Elab.async false
set_option maxRecDepth 100000
set_option Elab.async false
set_option linter.all false
set_option maxRecDepth 100000
set_option maxHeartbeats 2000000
namespace Tw
open PySem PySem.Spec PyProof.Rows L2

/-! own rules: an instance with dunder methods -/
/-- a dunder method of the class at C, its def at f -/
structure Dn (K : PySem.W.Frag) (C : Addr) (m : Str) (f : Addr) : Prop where
  at_ : PySem.W.findIn K (.ref C) m = some (some (.ref f))
  fn : PySem.W.isFn K (.ref f) = true
  fi : PySem.W.fnIn K f = true


section
variable {X : Cx} {CX : CXT} {k n : Nat} {f C : Addr} {fd : FuncData} {ps : List Str} {sp : Sp} {E : XK} {o e : Expr} {pos : Pos} {ta tb : TE} {A1 : Around}
  {pins : List (Addr × Obj)} {σ : L2.St} {H : Hp} {s : Shared} {Q : VK}
theorem Sub.env0 (sb : Sub X n A1) (I : Inv X pins σ H s) : Env0 X.prog X.w X.K X.mg X.base A1 X.stack s H := by
  have q := I.env0
  exact ⟨by rw [sb.fr]; exact q.frames, q.mod, q.bs, q.bsz, q.funs, q.frf, q.hok, q.bare⟩
theorem run_sub {us : List Value} {vs : List V} (F : FnOk X.prog X.w X.K X.mg X.base CX k f fd ps sp) (sb : Sub X k A1) (hb : Binds X.K fd ps []) (hx : Passes CX X E) (I : Inv X pins σ H s) (r : Vals vs us) (h : sp vs H Q E) :
    wpAny (model X.prog X.w) A1 (call (.ref f) us) (EP X pins σ Q) X.xe s := by
  have hl : us.length = ps.length := by rw [← r.length]; exact F.len _ _ _ _ h
  have hb1 : BindsTo s fd ⟨us, []⟩ (ps.zip us) := by
    have z := hb s us I.kIn (by rw [List.append_nil]; exact hl)
    rw [List.append_nil] at z
    exact z
  refine wpAny_call (codeAny_mono (F.run A1 X.stack s H ⟨us, []⟩ us vs Q E sb.room (Sub.env0 sb I) hb1 r h) fun z s' hq => ?_)
  match z, hq with
  | .error e, hq => exact hx pins σ H s e s' I hq
  | .ok (.ret u), hq => exact I.after hq
  | .ok .next, hq => exact False.elim hq
  | .ok .brk, hq => exact False.elim hq
  | .ok .cont, hq => exact False.elim hq
theorem relR (a : Addr) : RelV (V.ref a) (Value.ref a) := rfl
theorem relB (b : Bool) : RelV (V.bl b) (Value.bool b) := rfl
theorem relI (i : Int) (t : Tok) : RelV (V.int i) (Value.int i t) := ⟨t, rfl⟩
/-- o[e] by the class's own def -/
def tGi (C : Addr) (sp : Sp) (E : XK) (ta tb : TE) : TE := fun σ H Q => ta σ H fun x H1 => tb σ H1 fun y H2 =>
  ∃ a dx fs, x = .ref a ∧ H2 a = some (.ins C dx fs) ∧ sp [.ref a, y] H2 Q E
theorem pe_gi (hd : Dn X.K C "__getitem__" f) (F : FnOk X.prog X.w X.K X.mg X.base CX k f fd ps sp) (hr : Room (k + 1) X.A) (hb : Binds X.K fd ps []) (hx : Passes CX X E) (ho : PE X o ta) (he : PE X e tb)
    (hs : ∀ v u, subscripted e true v u = runValue (.builtin "lifetime.subscript" ⟨[v, u], []⟩) := by intro _ _; with_unfolding_all rfl) :
    PE X (.Subscript o e pos) (tGi C sp E ta tb) := by
  refine ⟨fun pins s σ H Q I h => ?_⟩
  refine Subscript_ (binT ho he (R := fun x y H2 => ∃ a dx fs, x = .ref a ∧ H2 a = some (.ins C dx fs) ∧ sp [.ref a, y] H2 Q E) I h fun v u s2 x y H2 I2 rx ry ⟨a, dx, fs, ex, ha, q⟩ => ?_)
  subst ex
  obtain rfl : v = Value.ref a := rx
  obtain ⟨mA, O, rr, _, _, _⟩ := ins_get I2.hok ha
  obtain ⟨od, J, hl⟩ := O.look
  obtain ⟨m0, hF⟩ := I2.fr
  exact PySem.W.sub_K hF I2.ok.mod.kin J hd.at_ hd.fi hd.fn (run_sub F (Sub.in1 ⟨hr, rfl⟩) hb hx I2 (.cons (relR a) (.cons ry .nil)) q) (hs _ _)
/-- e in o, by the class's own def -/
def rIn (C : Addr) (sp : Sp) (E : XK) (neg : Bool) : R2 := fun x y H Q =>
  ∃ a dx fs, y = .ref a ∧ H a = some (.ins C dx fs) ∧ sp [.ref a, x] H (fun v H' => ∃ b, v = .bl b ∧ Q (.bl (if neg then !b else b)) H') E
theorem op_in_own (hd : Dn X.K C "__contains__" f) (F : FnOk X.prog X.w X.K X.mg X.base CX k f fd ps sp) (hr : Room k X.A) (hb : Binds X.K fd ps []) (hx : Passes CX X E) : OpR X (compareOp .In) (rIn C sp E false) := by
  intro pins s σ H x y v u Q I rx ry ⟨a, dx, fs, ey, ha, q⟩
  subst ey
  obtain rfl : u = Value.ref a := ry
  obtain ⟨mA, O, rr, _, _, _⟩ := ins_get I.hok ha
  obtain ⟨od, J, hl⟩ := O.look
  obtain ⟨m0, hF⟩ := I.fr
  refine PySem.W.in_K hF I.ok.mod.kin J hd.at_ hd.fn (thn (run_sub F ⟨hr, rfl⟩ hb hx I (.cons (relR a) (.cons rx .nil)) q) fun r s' ⟨z, H', I', rz, b, ez, q'⟩ => ?_)
  subst ez
  obtain rfl : r = Value.bool b := rz
  exact wpAny_truthy_bool ⟨_, _, I', relB b, q'⟩
/-- len(o) by the class's own def -/
def rLenO (C : Addr) (sp : Sp) (E : XK) : List V → Hp → VK → Prop := fun xs H Q =>
  ∃ a dx fs, xs = [.ref a] ∧ H a = some (.ins C dx fs) ∧ sp [.ref a] H (fun v H' => ∃ n : Nat, v = .int n ∧ n < 1000 ∧ Q (.int n) H') E
theorem call_len_own (hd : Dn X.K C "__len__" f) (F : FnOk X.prog X.w X.K X.mg X.base CX k f fd ps sp) (hr : Room (k + 1) X.A) (hb : Binds X.K fd ps []) (hx : Passes CX X E) : CallR X (.builtin "len") (rLenO C sp E) := by
  intro pins s σ H xs us Q I rv ⟨a, dx, fs, ex, ha, q⟩
  subst ex
  obtain ⟨u, rfl, ru⟩ := rv.one
  obtain rfl : u = Value.ref a := ru
  obtain ⟨mA, O, rr, _, _, _⟩ := ins_get I.hok ha
  obtain ⟨od, J, hl⟩ := O.look
  obtain ⟨m0, hF⟩ := I.fr
  refine PySem.W.len_K hF I.ok.mod.kin J hd.at_ hd.fn (thn (run_sub F (Sub.in1 ⟨hr, rfl⟩) hb hx I (.cons (relR a) .nil) q) fun r s' ⟨z, H', I', rz, n, ez, hn, q'⟩ => ?_)
  subst ez
  obtain ⟨t, rfl⟩ := rz
  exact ⟨⟨by omega, by omega⟩, _, _, I'.tok _, relI _ _, q'⟩
end

/-! for x in o, o an instance whose __iter__ says: return iter(self.F), F a tuple -/
def itTup (t : Addr) (i : Nat) : Obj := { cls := .type "tuple_iterator", data := .fields #[.ref t, .int (i : Nat) 0] }
def ItT (t it : Addr) (i : Nat) : HO := .ext fun h => h.get? it = some (itTup t i)
def rIterT (K : PySem.W.Frag) (n : Nat) : List V → Hp → VK → Prop := fun xs H Q => ∃ (t : Addr) (zs : List V), xs = [.ref t] ∧ SqT K H t zs ∧ ∀ it, H it = Option.none → n ≤ it → Q (.ref it) (upd H it (ItT t it 0))
section
variable {X : Cx}
theorem call_iterT : CallR X (.builtin "iter") (rIterT X.K X.s_0.heap.objs.size) := by
  intro pins s σ H xs us Q I r ⟨t, zs, e, hq, q⟩
  subst e
  obtain ⟨u, rfl, ru⟩ := r.one
  obtain rfl : u = Value.ref t := ru
  obtain ⟨its, rv, pl, hz⟩ := I.tuple hq
  refine Calls.call_function_entry (by decide +kernel) (by decide +kernel) PySem.W.kdk_entry_iter (PySem.W.kdk_args_iter _) ?_
  unfold Builtin.«iter»
  refine wpAny_bind (m := someArgs "iter" 1 2 _) (wpAny_of_eq (a := [Value.ref t]) (by first | rfl | kernel_rfl!) ?_)
  show wpAny _ _ (pyIter (.ref t) >>= _) _ _ _
  refine wpAny_bind (wpAny_pyIter_tuple (show s.heap.IsTuple t its.toArray from pl) ?_)
  have g : (s.heap.push (itTup t 0)).get? s.heap.objs.size = some (itTup t 0) := Heap.get?_push_size _ rfl
  have ok : ObjOk X.prog X.w (upd H s.heap.objs.size (ItT t s.heap.objs.size 0)) (s.heap.push (itTup t 0)) s.heap.objs.size (ItT t s.heap.objs.size 0) := ⟨g, ⟨_, g⟩, fun _ _ q k => k _ q⟩
  exact wpAny_pure ⟨_, rfl, .ref s.heap.objs.size, _, I.laid (t' := s.toks) (fun b u e => Heap.get?_push_of_some _ e) (Nat.le_refl _) ok, relR _, q _ (I.hok.fresh (Nat.le_refl _)) I.sz⟩
end

/-- a promise that may speak of how many objects there are when the def is called -/
def FnIt (P : Program) (w : World) (K : PySem.W.Frag) (mg : Str → Option Value) (base : Heap) (k : Nat) (f : Addr) (fd : FuncData) (ps : List Str) (sp : Nat → List V → Hp → VK → Prop) : Prop :=
  ∀ (A : Around) (outer : List Env) (s : Shared) (H : Hp) (us : List Value) (vs : List V) (Q : VK), Room k A → Env0 P w K mg base A outer s H → BindsTo s fd ⟨us, []⟩ (ps.zip us) → vs.length = ps.length → Vals vs us →
    sp s.heap.objs.size vs H Q → codeAny (model P w) A (.call (.ref f) ⟨us, []⟩) (CR CX0 outer P w H s Q E0) s
section
variable {P : Program} {w : World} {K : PySem.W.Frag} {mg : Str → Option Value} {base : Heap}
theorem fnIt_of {x qual : Str} {st : Stmt} {f : Addr} {fd : FuncData} {N ps : List Str} {k : Nat} {sp : Nat → List V → Hp → VK → Prop} (F : Fun K x qual st f fd) (S : FnScope N ps (defScope st))
    (hbody : ∀ (cdv : Value) (A : Around) (outer : List Env) (s : Shared) (H : Hp) (vs : List V) (Q : VK), Room k (A.deeper (envOfC qual (defScope st) s.heap.objs.size f cdv)) → sp s.heap.objs.size vs H Q →
      ∃ t, PSs (cxOf CX0 P w K mg base N qual (defScope st) f cdv A outer s H E0).nox (defBody st) t ∧ t { nx := fun _ H' => Q .non H', rt := Q } (start N vs) H) : FnIt P w K mg base (k + 1) f fd ps sp := by
  obtain ⟨oc, od, kV, doc, pm, an, cdv, ct, osl, rfl, lk, hcd⟩ := F.ex
  intro A outer s H us vs Q hr e0 hb hl r hsp
  have kin : K.In s.heap := e0.mod.kin.keeps fun b o e => (e0.bs b o e).1
  have lim : s.heap.NoLimit := e0.mod.nolimit.keeps fun b o e => (e0.bs b o e).1
  have kinds : ∀ y ∈ ps.zip us, (defScope st).names.lookup y.1 = some .local ∨ ((defScope st).names.lookup y.1 = some .cell ∧ ((cellsFrom (s.heap.objs.size + 1) (defScope st).names []).lookup y.1).isSome = true) := by
    intro y hy
    cases S.par y.1 (List.of_mem_zip (a := y.1) (b := y.2) hy).1 with
    | inl q => exact .inl q
    | inr q => exact .inr ⟨q, PySem.W.cellsFrom_some _ _ _ (.inl q)⟩
  apply codeAny_call_function hr.depth (kin _ _ lk) rfl S.co S.gen rfl (PySem.W.codeRec_of kin hcd) (hb _ _ _ _ ?_)
  apply wpAny_newFunctionEnv_cells S.kind kinds
  intro env he s1 x
  subst he
  refine ⟨lim.keeps x.toInCall.keep, codeAny_func ?_⟩
  obtain ⟨t, ht, hq⟩ := hbody cdv A outer s H vs Q (hr.deeper _) hsp
  have I := inv_start (CX := CX0) (P := P) (w := w) (E := E0) (cd := cdv) (qual := qual) (f := f) (outer := outer) S hr.hd e0 hl r x
  refine wpAny_mono (ht.nox.run [] s1 (start N vs) H _ I hq) (fun fl s' hs => ?_) fun e s' hs => hs
  match fl, hs with
  | .ret u, ⟨v, σ', H', J, rv, q⟩ => exact ⟨v, H', J.os, J.bare, J.base, J.hok, rv, q⟩
  | .next, ⟨σ', H', J, q⟩ => exact ⟨V.non, H', J.os, J.bare, J.base, J.hok, rfl, q⟩
  | .brk, ⟨_, _, _, q⟩ => exact False.elim q
  | .cont, ⟨_, _, _, q⟩ => exact False.elim q
end
/-- what such an __iter__ promises -/
def spIter (K : PySem.W.Frag) (C : Addr) (fld : Str) : Nat → List V → Hp → VK → Prop := fun n vs H Q => ∃ a dx fs t zs, vs = [.ref a] ∧ H a = some (.ins C dx fs) ∧ fs.lookup fld = some (.ref t) ∧ SqT K H t zs ∧
  ∀ it, H it = Option.none → n ≤ it → Q (.ref it) (upd H it (ItT t it 0))
/-- x in o, for a loop: o's own tuple is walked -/
def iOwn (K : PySem.W.Frag) (C : Addr) (fld : Str) (to : TE) : TI := fun σ H R => to σ H fun x H1 => ∃ a dx fs t zs, x = .ref a ∧ H1 a = some (.ins C dx fs) ∧ fs.lookup fld = some (.ref t) ∧ SqT K H1 t zs ∧ R (Itt K t) H1
section
variable {X : Cx} {k : Nat} {f C : Addr} {fd : FuncData} {fld : Str} {tg o : Expr} {to : TE} {pins : List (Addr × Obj)} {σ : L2.St} {H : Hp} {s : Shared} {A1 : Around}
theorem run_iter {a t dx : Addr} {fs : List (Str × V)} {zs : List V} (F : FnIt X.prog X.w X.K X.mg X.base k f fd ["self"] (spIter X.K C fld)) (sb : Sub X k A1) (hb : Binds X.K fd ["self"] []) (I : Inv X pins σ H s)
    (ha : H a = some (.ins C dx fs)) (hf : fs.lookup fld = some (.ref t)) (ht : SqT X.K H t zs) {E : Value → Shared → Prop} :
    wpAny (model X.prog X.w) A1 (call (.ref f) [.ref a]) (fun u s' => ∃ it, u = .ref it ∧ s.heap.objs.size ≤ it ∧ H it = Option.none ∧ Inv X pins σ (upd H it (ItT t it 0)) s') E s := by
  have hb1 : BindsTo s fd ⟨[.ref a], []⟩ ((["self"] : List Str).zip [Value.ref a]) := by
    have z := hb s [.ref a] I.kIn rfl
    exact z
  refine wpAny_call (codeAny_mono (F A1 X.stack s H [.ref a] [.ref a] (fun v H' => ∃ it, v = .ref it ∧ s.heap.objs.size ≤ it ∧ H it = Option.none ∧ H' = upd H it (ItT t it 0)) sb.room (Sub.env0 sb I) hb1 rfl (.cons (relR a) .nil)
    ⟨a, dx, fs, t, zs, rfl, ha, hf, ht, fun it h0 hn => ⟨it, rfl, hn, h0, rfl⟩⟩) fun z s' hq => ?_)
  match z, hq with
  | .error e, hq => exact hq.elim
  | .ok (.ret u), hq =>
    obtain ⟨v, H', I', rv, it, ev, hn, h0, eH⟩ := I.after hq
    subst ev
    rw [eH] at I'
    obtain rfl : u = Value.ref it := rv
    exact ⟨it, rfl, hn, h0, I'⟩
  | .ok .next, hq => exact False.elim hq
  | .ok .brk, hq => exact False.elim hq
  | .ok .cont, hq => exact False.elim hq
theorem pi_own (hd : Dn X.K C "__iter__" f) (F : FnIt X.prog X.w X.K X.mg X.base k f fd ["self"] (spIter X.K C fld)) (hr : Room k X.A) (hb : Binds X.K fd ["self"] []) (ho : PE X o to) : PI X tg o (iOwn X.K C fld to) := by
  refine ⟨fun pins s σ H R I h => ?_⟩
  refine thn (ho.run pins s σ H _ I h) fun u s1 ⟨x, H1, I1, rx, a, dx, fs, t, zs, ex, ha, hf, ht, q⟩ => ?_
  subst ex
  obtain rfl : u = Value.ref a := rx
  obtain ⟨mA, O, rr, _, _, _⟩ := ins_get I1.hok ha
  obtain ⟨od, J, hl⟩ := O.look
  obtain ⟨m0, hF⟩ := I1.fr
  refine PySem.W.owit_iter hF I1.ok.mod.kin J hd.at_ hd.fn (thn (run_iter F ⟨hr, rfl⟩ hb I1 ha hf ht) fun r s2 ⟨it, er, hn, h0, I2⟩ => ?_)
  subst er
  have e2 : upd H1 it (ItT t it 0) it = some (ItT t it 0) := upd_same
  have g : s2.heap.get? it = some (itTup t 0) := (I2.hok it _ e2).1
  have hT : s2.TypeIs (.ref it) "tuple_iterator" := ⟨_, g, rfl⟩
  have hfp := ItX.inv_fp I2 e2 (Nat.le_trans I1.sz hn)
  have I3 := ItX.inv_drop I2 e2
  rw [ItX.dropH_upd h0] at I3 hfp
  unfold PySem.W.OwitIt
  refine wpAny_specialOf (name := Str.ofString "__next__") hT PySem.F.slot_tuple_iterator_next.lookup ?_
  refine ⟨it, [it], _, _, H1, rfl, I3, turn_tuple t it, ⟨_, g, rfl, rfl⟩, fun b hb => ?_, q⟩
  rw [List.mem_singleton.mp hb]
  exact hfp
end
/-! C.m(e, .., k = v, ..), m a classmethod; cls(e, .., k = v, ..), cls a local name that holds the class -/
def tCMethK (C : Addr) (n m : Nat) (sp : Sp) (gV : List V → List V → List V) (E : XK) (ta : TE) (t tk : TA) : TE := fun σ H Q => ta σ H fun x H1 => x = .ref C ∧ t σ H1 fun vs H2 => tk σ H2 fun zs H3 => (.ref C :: vs).length = n ∧ zs.length = m ∧ sp (gV (.ref C :: vs) zs) H3 Q E
def tMakeLK (i : Nat) (C : Addr) (n m : Nat) (sp : Sp) (gV : List V → List V → List V) (E : XK) (t tk : TA) : TE := fun σ H Q => σ[i]? = some (some (.ref C)) ∧ tMakeK C n m sp gV E t tk σ H Q
section
variable {X : Cx} {CX : CXT} {k n i : Nat} {C p g f : Addr} {mc : Value} {sp : Sp} {E : XK} {o e : Expr} {es : List Expr} {kws : List Keyword} {m x : Str} {pos apos xpos : Pos} {ta : TE} {t tk : TA} {pl : Sem Bool} {fd : FuncData} {ps ks : List Str}
  {gv : List Value → List Value → List Value} {gV : List V → List V → List V}
theorem pe_cmethK (he : PE X o ta) (r : ClX.CRead X.K C mc) (c : ClX.CMet X.K C mc m p g) (F : FnOk X.prog X.w X.K X.mg X.base CX k g fd ps sp) (hr : Room k X.A) (hb : KBn X.K fd ps n ks gv gV) (hx : Passes CX X E) (ha : PA X (e :: es) t) (hkw : PK X kws tk)
    (hall : (backToKw pos (keywordEach kws X.env)).all (·.1.isSome) = true := by rfl) (hks : (backToKw pos (keywordEach kws X.env)).filterMap (·.1) = ks := by rfl)
    (hst : starEach (e :: es) X.env = (false, eval e X.env) :: starEach es X.env := by rfl) (hpl : ((backTo pos (starEach (e :: es) X.env)).any (·.1) || (backToKw pos (keywordEach kws X.env)).any (·.1.isNone)) = false := by rfl)
    (ht : eval (.Call (.Attribute o m apos) (e :: es) kws pos) X.env = (do
      let ov ← eval o X.env
      standAt apos.atName
      let (f, first) ← holding [ov] (getMethod ov m pl)
      callWith pos f first (backTo pos (starEach (e :: es) X.env)) (backToKw pos (keywordEach kws X.env))) := by rfl) :
    PE X (.Call (.Attribute o m apos) (e :: es) kws pos) (tCMethK C n ks.length sp gV E ta t tk) := by
  refine ⟨fun pins s σ H Q I h => ?_⟩
  refine PySem.W.methodCall_KW (pl := pl) (thn (he.run pins s σ H _ I h) fun u s1 ⟨x, H1, I1, rx, ex, q⟩ => ?_) ht
  subst ex
  obtain rfl : u = Value.ref C := rx
  refine ClX.getmethcm_ok I1 r c fun s2 I2 => ?_
  refine PySem.W.callWith_of (P := PySem.W.MethP X.K s1.heap.objs.size g (.ref C)) hpl (PySem.W.keeps_M c.fi) (evalArgs_kw2 hall (thn (ha.run pos _ s2 σ H1 _ I2 q) fun us s3 ⟨vs, H2, I3, rv, q2⟩ => ?_) hst)
  refine thn (hkw.run pos _ s3 σ H2 _ I3 q2) fun ws s4 ⟨zs, H3, I4, rz, l1, l2, q3⟩ => ⟨⟨ClX.pin_at I4, I4.kIn⟩, ?_⟩
  rw [hks]
  have r2 : Vals (V.ref C :: vs) (Value.ref C :: us) := .cons (relR C) rv
  have n1 : (Value.ref C :: us).length = n := r2.length.symm.trans l1
  have I5 := ClX.unpin I4
  refine wpAny_call (PySem.W.method_call (ClX.pin_at I4) (codeAny_mono (F.run X.A X.stack s4 H3 ⟨Value.ref C :: us, ks.zip ws⟩ _ _ Q E hr I5.env0 (hb.to _ (Value.ref C :: us) ws I5.kIn n1 (rz.length.symm.trans l2)) (hb.rel r2 rz) q3) fun z s' hq => ?_))
  match z, hq with
  | .error e, hq => exact hx pins σ H3 s4 e s' I5 hq
  | .ok (.ret u), hq => exact I5.after hq
  | .ok .next, hq => exact False.elim hq
  | .ok .brk, hq => exact False.elim hq
  | .ok .cont, hq => exact False.elim hq
theorem pe_makeLK (M : Mk X.K C f) (F : FnOk X.prog X.w X.K X.mg X.base CX k f fd ps sp) (hr : Room (k + 1) X.A) (hb : KBn X.K fd ps (n + 1) ks gv gV) (hx : Passes CX X E) (ha : PA X (e :: es) t) (hkw : PK X kws tk)
    (hN : X.N[i]? = some x) (hv : Vis X.env.scope x) (hd : (x == ("__debug__" : Str)) = false := by decide) (hcd : (x == ("__classdict__" : Str)) = false := by decide)
    (hall : (backToKw pos (keywordEach kws X.env)).all (·.1.isSome) = true := by rfl) (hks : (backToKw pos (keywordEach kws X.env)).filterMap (·.1) = ks := by rfl)
    (hst : starEach (e :: es) X.env = (false, eval e X.env) :: starEach es X.env := by rfl) (hpl : ((backTo pos (starEach (e :: es) X.env)).any (·.1) || (backToKw pos (keywordEach kws X.env)).any (·.1.isNone)) = false := by rfl) :
    PE X (.Call (.Name x xpos) (e :: es) kws pos) (tMakeLK i C n ks.length sp gV E t tk) := by
  refine ⟨fun pins s σ H Q I ⟨h0, h⟩ => ?_⟩
  refine wpAny_Call_Name_kw (thn ((pe_var (pos := xpos) (i := i) hN hv hd hcd).run pins s σ H (fun v H1 => v = .ref C ∧ H1 = H) I ⟨.ref C, h0, rfl, rfl⟩) fun u s1 ⟨v, H1, I1, r1, ev, eH⟩ => ?_)
  subst ev
  rw [eH] at I1
  obtain rfl : u = Value.ref C := r1
  refine PySem.W.callWith_KW (h₀ := X.base) I1.ok.mod.kin M.kp hall (thn (ha.run pos pins s1 σ H _ I1 h) fun us s2 ⟨vs, H2, I2, r, q⟩ => ?_) hpl hst
  refine thn (hkw.run pos pins s2 σ H2 _ I2 q) fun ws s3 ⟨zs, H3, I3, rz, l1, l2, q2⟩ => ⟨I3.kIn, ?_⟩
  rw [hks]
  exact run_makeK M F hr hb hx I3 r rz l1 l2 q2
end

/-! heaps that only grow -/
theorem Same.up {H : Hp} {p : Addr} {o : HO} (h : H p = Option.none) : Same H (upd H p o) := fun b u e => by
  rw [upd_ne (ne_of_none e h)]
  exact e
/-- a list under way at D, which was not there in H1 -/
structure Acc (H1 : Hp) (D : Addr) (acc : List V) (H : Hp) : Prop where
  s : Same H1 H
  n : H1 D = Option.none
  a : H D = some (.lst acc)
theorem Acc.start {H1 : Hp} {D : Addr} (n : H1 D = Option.none) : Acc H1 D [] (upd H1 D (.lst [])) := ⟨Same.up n, n, upd_same⟩
theorem Acc.same {H1 H H' : Hp} {D : Addr} {acc : List V} (h : Acc H1 D acc H) (s : Same H H') : Acc H1 D acc H' := ⟨h.s.trans s, h.n, s _ _ h.a⟩
theorem Acc.push {H1 H : Hp} {D : Addr} {acc zs : List V} (h : Acc H1 D acc H) : Acc H1 D zs (upd H D (.lst zs)) :=
  ⟨fun b o e => by rw [upd_ne (ne_of_none e h.n)]; exact h.s b o e, h.n, upd_same⟩
theorem Same.none' {H H' : Hp} (s : Same H H') {p : Addr} (h : H' p = Option.none) : H p = Option.none := s.free h
theorem Same.of_upd {H H' : Hp} {p : Addr} {o : HO} (h : H p = Option.none) (s : Same (upd H p o) H') : Same H H' := (Same.up h).trans s
/-- a list of ints as values -/
theorem ints_at {ns : List Int} {i : Nat} {x : V} (h : (ns.map V.int)[i]? = some x) : ∃ (hi : i < ns.length), x = .int ns[i] := by
  rw [List.getElem?_map] at h
  cases e : ns[i]? with
  | none => rw [e] at h; cases h
  | some u =>
    rw [e] at h
    obtain ⟨hi, rfl⟩ := List.getElem?_eq_some_iff.mp e
    exact ⟨hi, (Option.some.inj h).symm⟩

/-! comprehensions that pick -/
section
variable {α : Type} {H1 H : Hp} {D : Addr} {ks : List α} {f : α → Option V} {i : Nat} {c : α → V}
def PickI (H1 : Hp) (D : Addr) (ks : List α) (f : α → Option V) : Nat → Hp → Prop := fun i H => Acc H1 D ((ks.take i).filterMap f) H
theorem pick_start (n : H1 D = Option.none) : PickI H1 D ks f 0 (upd H1 D (.lst [])) := Acc.start n
theorem take_fm (hi : i < ks.length) : (ks.take (i + 1)).filterMap f = (ks.take i).filterMap f ++ (f ks[i]).toList := by
  rw [List.take_succ_eq_append_getElem hi, List.filterMap_append]
  cases h : f ks[i] <;> simp [h]
theorem pick_yes {H' : Hp} {y : V} (hi : i < ks.length) (hl : ks.length ≤ 1000) (e : f ks[i] = some y) (s : Same H H') (h : PickI H1 D ks f i H) :
    ∃ acc, H' D = some (.lst acc) ∧ acc.length < sizeLine ∧ PickI H1 D ks f (i + 1) (upd H' D (.lst (acc ++ [y]))) := by
  have h2 := Acc.same h s
  refine ⟨_, h2.a, small1000 ?_, ?_⟩
  · exact Nat.le_trans (Nat.le_trans (List.length_filterMap_le _ _) (List.length_take_le _ _)) (by omega)
  · unfold PickI
    rw [take_fm hi, e]
    exact h2.push
theorem pick_no {H' : Hp} (hi : i < ks.length) (e : f ks[i] = none) (s : Same H H') (h : PickI H1 D ks f i H) : PickI H1 D ks f (i + 1) H' := by
  unfold PickI
  rw [take_fm hi, e, Option.toList_none, List.append_nil]
  exact Acc.same h s
theorem pick_end {m : Nat} (hm : m = ks.length) (h : PickI H1 D ks f m H) : Acc H1 D (ks.filterMap f) H := by
  subst hm
  unfold PickI at h
  rw [List.take_length] at h
  exact h
theorem map_at {x : V} (h : (ks.map c)[i]? = some x) : ∃ hi : i < ks.length, x = c ks[i] := by
  rw [List.getElem?_map] at h
  cases e : ks[i]? with
  | none => rw [e] at h; cases h
  | some u =>
    rw [e] at h
    obtain ⟨hi, rfl⟩ := List.getElem?_eq_some_iff.mp e
    exact ⟨hi, (Option.some.inj h).symm⟩
end
end Tw

set_option Elab.async false
set_option linter.all false
set_option maxRecDepth 100000
set_option maxHeartbeats 2000000
namespace Tw
open PySem PySem.Spec PyProof.Rows L2
open PySem.W (InstAt looks_findIn looks_subIn ifBound_K cmp_K)
/-- a class with an own __eq__ and the usual != -/
structure EqC (K : PySem.W.Frag) (C f : Addr) : Prop where
  eq : PySem.W.findIn K (.ref C) "__eq__" = some (some (.ref f))
  fn : PySem.W.isFn K (.ref f) = true
  ne : PySem.W.findIn K (.ref C) "__ne__" = some (some (.builtin "object.__ne__"))
  ob : PySem.W.subIn K (.ref C) (.type "object") = some true
  ni : PySem.W.subIn K (.type "int") (.ref C) = some false
  nt : PySem.W.subIn K (.type "tuple") (.ref C) = some false

section
variable {prog : Program} {w : World} {A : Around} {E : Value → Shared → Prop} {s : Shared} {K : PySem.W.Frag} {x C L f : Addr} {h₀ : Heap} {m : Str → Option Value} {ox : Obj} {od : Option Obj} {b tb : Value}
theorem ne_entry {Q : PySem.Fin → Shared → Prop} (hu : A.units < cLine) (X : K.In s.heap) (I : InstAt s.heap x ox C od) (c : EqC K C f)
    (h : wpAny (model prog w) A (call (.ref f) [.ref x, b]) (fun v s' => ∃ r, v = .bool r ∧ Q (.done (.ret (.bool (!r)))) s') E s) :
    wpAny (model prog w) A (Builtin.«object.__ne__» ⟨[.ref x, b], []⟩) Q E s := by
  unfold Builtin.«object.__ne__»
  refine wpAny_bind (wpAny_of_eq (a := (Value.ref x, [b])) (by first | rfl | kernel_rfl!) ?_)
  refine wpAny_bind (wpAny_cRoomFor hu ?_)
  refine wpAny_bind (m := callSpecialIfBound? (.ref x) (Str.ofString "__eq__") [b]) (ifBound_K X I c.eq c.fn (wpAny_mono h (fun v s' hv => ?_) fun _ _ e => e))
  obtain ⟨r, e, q⟩ := hv
  subst e
  refine wpAny_bind (m := truthy (.bool r)) (wpAny_truthy_bool ?_)
  exact wpAny_pure q
theorem ne_call {Q : Value → Shared → Prop} (hu : A.in1.units < cLine) (X : K.In s.heap) (I : InstAt s.heap x ox C od) (c : EqC K C f)
    (h : wpAny (model prog w) A.in1 (call (.ref f) [.ref x, b]) (fun v s' => ∃ r, v = .bool r ∧ Q (.bool (!r)) s') E s) :
    wpAny (model prog w) A (call (.builtin "object.__ne__") [.ref x, b]) Q E s := by
  have t2 : PySem.W.Looks (model prog w) s.heap (isInstance (.ref x) (.type "object")) true := I.type.andThen (looks_subIn X c.ob)
  refine wpAny_call (codeAny_call_builtin F.cmp_object.ne.plain F.cmpEntry_ne (PySem.W.check_slot F.cmpKind_ne F.cmpSplit_ne t2 (F.cmpArgs_ne _ _) (ne_entry hu X I c (wpAny_mono h (fun v s' hv => ?_) fun _ _ e => e))))
  obtain ⟨r, e, q⟩ := hv
  exact ⟨r, e, q⟩
theorem ne_bound {Q : Option Value → Shared → Prop} (hu : A.in1.units < cLine) (X : K.In s.heap) (I : InstAt s.heap x ox C od) (c : EqC K C f)
    (h : wpAny (model prog w) A.in1 (call (.ref f) [.ref x, b]) (fun v s' => ∃ r, v = .bool r ∧ Q (some (.bool (!r))) s') E s) :
    wpAny (model prog w) A (callSpecialIfBound? (.ref x) "__ne__" [b]) Q E s := by
  simp only [callSpecialIfBound?, bindSpecialIfBound?]
  refine wpAny_holding (wpAny_bind (wpAny_bind (wpAny_bind (I.type.here ((looks_findIn X c.ne).here ?_)))))
  refine wpAny_bind (wpAny_askSetting (wpAny_ite ?_))
  have fin : wpAny (model prog w) A (call (.builtin "object.__ne__") ([.ref x] ++ [b]) >>= fun v => pure (some v)) Q E s :=
    wpAny_bind (ne_call hu X I c (wpAny_mono h (fun v s' ⟨r, e, q⟩ => ⟨r, e, wpAny_pure q⟩) fun _ _ e => e))
  have bd := F.cmp_object.ne.bind (.ref x)
  split
  · refine wpAny_bind ?_
    rw [bd]
    exact wpAny_pure (wpAny_pure (by exact fin))
  · refine wpAny_tryCatch (wpAny_bind ?_)
    rw [bd]
    exact wpAny_pure (wpAny_pure (by exact fin))
theorem ne_K {Q : Value → Shared → Prop} (hu : A.in1.units < cLine) (hu0 : A.units < cLine) (F : Fr h₀ L s.heap m) (X₀ : K.In h₀) (I : InstAt s.heap x ox C od) (hb : PySem.W.Looks (model prog w) s.heap (typeOf b) tb) (hn : PySem.W.notFirst K C tb = true) (c : EqC K C f)
    (h : wpAny (model prog w) A.in1 (call (.ref f) [.ref x, b]) (fun v s' => ∃ r, v = .bool r ∧ Q (.bool (!r)) s') E s) : wpAny (model prog w) A (richCompare .NotEq (.ref x) b) Q E s := by
  have X := X₀.keeps F.keep
  have one : wpAny (model prog w) A (tryCompare (.ref x) (cmpInfo .NotEq).2.1 b) (fun r s' => ∃ v, r = some v ∧ Q v s') E s := by
    unfold tryCompare
    refine wpAny_bind (ne_bound hu X I c (wpAny_mono h (fun v s' ⟨r, e, q⟩ => ⟨r, e, ?_⟩) fun _ _ e => e))
    exact wpAny_pure ⟨_, rfl, q⟩
  have two : ∀ r s', (∃ v, r = some v ∧ Q v s') → ∃ v, r = some v ∧ Q v s' := fun _ _ z => z
  unfold richCompare
  simp only [oneThing_ref]
  refine wpAny_holding (wpAny_bind (wpAny_cRoomFor hu0 ?_))
  refine wpAny_bind (I.type.here (wpAny_bind (hb.here ?_)))
  split
  · rename_i q
    have e : PySem.W.subIn K tb (.ref C) = some false := by
      rcases Bool.or_eq_true_iff.mp hn with e | e
      · rw [beq_iff_eq.mp e] at q; simp at q
      · exact beq_iff_eq.mp e
    refine wpAny_bind ((looks_subIn X e).here ?_)
    simp only [Bool.false_eq_true, if_false]
    refine wpAny_bind (wpAny_mono one (fun r s' ⟨v, ev, hq⟩ => ?_) fun _ _ e => e)
    subst ev
    exact wpAny_pure hq
  · refine wpAny_bind (wpAny_pure ?_)
    simp only [Bool.false_eq_true, if_false]
    refine wpAny_bind (wpAny_mono one (fun r s' ⟨v, ev, hq⟩ => ?_) fun _ _ e => e)
    subst ev
    exact wpAny_pure hq
end
/-! as rules -/
section
variable {X : Cx} {CX : CXT} {k : Nat} {f C : Addr} {fd : FuncData} {ps : List Str} {sp : Sp} {E : XK}
/-- the other operand: an instance of the same class, an int, a tuple -/
inductive Oth (H : Hp) (C : Addr) : V → Prop where
  | ins {a dx : Addr} {fs : List (Str × V)} (h : H a = some (.ins C dx fs)) : Oth H C (.ref a)
  | int (i : Int) : Oth H C (.int i)
  | tup {a : Addr} {xs : List V} (h : H a = some (.tup xs)) : Oth H C (.ref a)
def rEqO (C : Addr) (sp : Sp) (E : XK) (neg : Bool) : R2 := fun x y H Q =>
  ∃ a dx fs, x = .ref a ∧ H a = some (.ins C dx fs) ∧ Oth H C y ∧ sp [.ref a, y] H (fun v H' => ∃ r, v = .bl r ∧ Q (.bl (if neg then !r else r)) H') E
theorem oth_type {pins : List (Addr × Obj)} {σ : L2.St} {H : Hp} {s : Shared} {y : V} {u : Value} (I : Inv X pins σ H s) (ry : RelV y u) (c : EqC X.K C f) (o : Oth H C y) :
    ∃ tb, PySem.W.Looks (model X.prog X.w) s.heap (typeOf u) tb ∧ PySem.W.notFirst X.K C tb = true := by
  cases o with
  | @ins a dx fs h =>
    obtain rfl : u = Value.ref a := ry
    obtain ⟨mA, O, rr, _, _, _⟩ := ins_get I.hok h
    obtain ⟨od, J, hl⟩ := O.look
    exact ⟨_, J.type, by unfold PySem.W.notFirst; simp⟩
  | int i =>
    obtain ⟨t, rfl⟩ := ry
    exact ⟨.type "int", .now, by unfold PySem.W.notFirst; rw [c.ni]; simp⟩
  | @tup a xs h =>
    obtain rfl : u = Value.ref a := ry
    obtain ⟨_, _, _, ob, h1, h2, _⟩ := (show ObjOk X.prog X.w H s.heap a (.tup xs) from I.hok a _ h)
    exact ⟨.type "tuple", h2 ▸ (PySem.W.Looks.ld h1).andThen .now, by unfold PySem.W.notFirst; rw [c.nt]; simp⟩
theorem op_eq_own (c : EqC X.K C f) (F : FnOk X.prog X.w X.K X.mg X.base CX k f fd ps sp) (hr : Room k X.A) (hb : Binds X.K fd ps []) (hx : Passes CX X E) : OpR X (compareOp .Eq) (rEqO C sp E false) := by
  intro pins s σ H x y v u Q I rx ry ⟨a, dx, fs, ex, ha, o, q⟩
  subst ex
  obtain rfl : v = Value.ref a := rx
  obtain ⟨mA, O, rr, _, _, _⟩ := ins_get I.hok ha
  obtain ⟨od, J, hl⟩ := O.look
  obtain ⟨m0, hF⟩ := I.fr
  obtain ⟨tb, lk, nf⟩ := oth_type I ry c o
  show wpAny _ _ (richCompare .Eq (.ref a) u) _ _ _
  refine cmp_K hr.units0 hF I.ok.mod.kin J lk nf c.eq c.fn (thn (run_sub F ⟨hr, rfl⟩ hb hx I (.cons (relR a) (.cons ry .nil)) q) fun r s' ⟨z, H', I', rz, b, ez, q'⟩ => ?_)
  subst ez
  obtain rfl : r = Value.bool b := rz
  exact ⟨_, H', I', relB b, q'⟩
theorem op_ne_own (c : EqC X.K C f) (F : FnOk X.prog X.w X.K X.mg X.base CX k f fd ps sp) (hr : Room (k + 1) X.A) (hb : Binds X.K fd ps []) (hx : Passes CX X E) : OpR X (compareOp .NotEq) (rEqO C sp E true) := by
  intro pins s σ H x y v u Q I rx ry ⟨a, dx, fs, ex, ha, o, q⟩
  subst ex
  obtain rfl : v = Value.ref a := rx
  obtain ⟨mA, O, rr, _, _, _⟩ := ins_get I.hok ha
  obtain ⟨od, J, hl⟩ := O.look
  obtain ⟨m0, hF⟩ := I.fr
  obtain ⟨tb, lk, nf⟩ := oth_type I ry c o
  show wpAny _ _ (richCompare .NotEq (.ref a) u) _ _ _
  refine ne_K (Room.units0 hr.in1) hr.units0 hF I.ok.mod.kin J lk nf c (thn (run_sub F (Sub.in1 ⟨hr, rfl⟩) hb hx I (.cons (relR a) (.cons ry .nil)) q) fun r s' ⟨z, H', I', rz, b, ez, q'⟩ => ?_)
  subst ez
  exact ⟨b, rz, _, H', I', relB (!b), q'⟩
end
end Tw

set_option Elab.async false
set_option linter.all false
set_option maxRecDepth 100000
set_option maxHeartbeats 4000000
namespace Tw
open PySem PySem.Spec PyProof.Rows L2
/-! enumerate(t), t a tuple -/
def enO (s : Shared) : Obj := { cls := .type "enumerate", data := .fields #[.none, .bool false, .ref s.heap.objs.size, rawInt 0, .none, .none] }
theorem enum_newT (t : Addr) (items : Array Value) :
    Meets (Builtin.«enumerate.__new__» ⟨[.type "enumerate", .ref t], []⟩) (fun _ R s => s.heap.IsTuple t items ∧
      R (.ok (.ret (.ref (s.heap.push (itTup t 0)).objs.size))) { s with heap := (s.heap.push (itTup t 0)).push (enO s) }) :=
  .of_wp fun prog w A R s h => by
    obtain ⟨hp, g, d, tk, os⟩ := s
    obtain ⟨h1, h⟩ := h
    have hsub := sub_enumerate
    have q1 : ∀ {A' : Around} {E : Value → Shared → Prop} {Q : Value → Shared → Prop}, Q (.ref hp.objs.size) ⟨hp.push (itTup t 0), g, d, tk, os⟩ → wpAny (model prog w) A' (pyIter (.ref t)) Q E ⟨hp, g, d, tk, os⟩ :=
      fun q => wpAny_pyIter_tuple (s := ⟨hp, g, d, tk, os⟩) h1 q
    wp_walk using q1
    refine wpAny_stack_any fun st => wpAny_pure ?_
    split
    · rename_i c _ _ _ _ _
      cases (c == Value.type "enumerate")
      · wp_walk using q1
        exact ⟨_, rfl, h⟩
      · wp_walk using q1
        exact ⟨_, rfl, h⟩
    · wp_walk using q1
      exact ⟨_, rfl, h⟩
section
variable {prog : Program} {w : World} {A : Around} {E : Value → Shared → Prop} {s : Shared}
theorem call_enumT {t : Addr} {items : Array Value} {Q : Value → Shared → Prop} (hT : s.heap.IsTuple t items)
    (h : ∀ h', IsEnum h' (s.heap.objs.size + 1) s.heap.objs.size 0 .none → h'.IsTupleIter s.heap.objs.size t 0 → h'.objs.size = s.heap.objs.size + 2 →
      (∀ b o, s.heap.get? b = some o → h'.get? b = some o) → Q (.ref (s.heap.objs.size + 1)) { s with heap := h' }) :
    wpAny (model prog w) A (call (.type "enumerate") [.ref t]) Q E s := by
  refine callType_new F.called_enumerate (by decide) (F.typeCall_enumerate_1 _) (F.newCall_enumerate_1 _) (fun obj => F.args_object_init_2 obj _) F.entry_enumerate_new (enum_newT t items) ⟨hT, ?_⟩
  have hz : (s.heap.push (itTup t 0)).objs.size = s.heap.objs.size + 1 := Heap.size_push ..
  show _ ∧ _
  rw [hz]
  have he : IsEnum ((s.heap.push (itTup t 0)).push (enO s)) (s.heap.objs.size + 1) s.heap.objs.size 0 .none := by
    have q := Heap.get?_push_size (s.heap.push (itTup t 0)) (o := enO s) rfl
    rw [hz] at q
    exact q
  have hi : ((s.heap.push (itTup t 0)).push (enO s)).IsTupleIter s.heap.objs.size t 0 := ⟨_, Heap.get?_push_of_some _ (Heap.get?_push_size _ rfl), rfl, rfl⟩
  exact ⟨⟨_, he, rfl⟩, h _ he hi (by rw [Heap.size_push, hz]) fun b o x => Heap.get?_push_of_some _ (Heap.get?_push_of_some _ x)⟩
end
def IteT (K : PySem.W.Frag) (a : Addr) : It :=
  ⟨fun i H => ∃ (xs : List V) (x : V), SqT K H a xs ∧ xs[i]? = some x, fun i H v H' => ∃ T x, v = .ref T ∧ H T = Option.none ∧ H' = upd H T (.tup [.int (i : Nat), x]) ∧ ∀ xs, SqT K H a xs → xs[i]? = some x, fun i H => ∃ xs : List V, SqT K H a xs ∧ xs.length = i⟩
theorem turn_enumT {P : Program} {w : World} {K : PySem.W.Frag} {elts : List Expr} {kk : Nat} {tpos : Pos} (a e it : Addr) :
    Turn P w K (.Tuple elts kk tpos) (IteT K a) [e, it] e (fun i h => (∃ old, IsEnum h e it ((i : Nat) : Int) old) ∧ h.IsTupleIter it a i ∧ e ≠ it) where
  mem := by simp
  obj := fun i h st b hb => by
    obtain ⟨⟨old, he⟩, ⟨o, ho, hc, hd⟩, _⟩ := st
    rcases (show b = e ∨ b = it by simpa using hb) with rfl | rfl
    · exact ⟨_, he, fun v q => nomatch q⟩
    · exact ⟨o, ho, fun v q => by rw [hd] at q; cases q⟩
  keep := fun i h h' st k => let ⟨⟨old, he⟩, hi, hne⟩ := st; ⟨⟨old, k e (by simp) _ he⟩, hi.at fun o q => k it (by simp) o q, hne⟩
  item := by
    intro X hP hw hK hc i pins s σ H E I hf st hg
    subst hP hw hK
    obtain ⟨⟨old, he⟩, hit, hne⟩ := st
    obtain ⟨xs, x, hq, hx⟩ := hg
    obtain ⟨its, rv, p, hz⟩ := I.tuple hq
    have hil : i < xs.length := (List.getElem?_eq_some_iff.mp hx).1
    have hlen := rv.length
    have hel : e < s.heap.objs.size := Heap.lt_size he
    have hitl : it < s.heap.objs.size := by obtain ⟨_, q, _⟩ := hit; exact Heap.lt_size q
    have hae : e ≠ a := fun z => by
      obtain ⟨oo, h1, h2, _⟩ := p
      rw [← z, he] at h1
      cases h1
      injection h2 with q
      exact absurd q (by decide)
    have hia : it ≠ a := fun z => by
      obtain ⟨oo, h1, h2, _⟩ := p
      obtain ⟨o2, h3, h4, _⟩ := hit
      rw [← z, h3] at h1
      cases h1
      rw [h4] at h2
      injection h2 with q
      exact absurd q (by decide)
    have D := Draws.tuple (prog := X.prog) (w := X.w) (A := X.A.in1) (I.ok.hd hc) it a hia.symm its.toArray
    refine wpAny_pyNext_enum_itemD D he ⟨hit, p⟩ (by rw [List.size_toArray]; omega) hne (by simp [hne, hae]) fun u h' tk hu ho hst hT hsz hk => ?_
    obtain ⟨u2, hu2, ru⟩ := rv.get hx
    obtain rfl : u = u2 := by
      rw [List.getElem?_toArray] at hu
      exact Option.some.inj (hu.symm.trans hu2)
    refine ⟨_, rfl, wpAny_letOwnedTupleGo_enum (s := { s with heap := h', toks := tk + 1 }) ho fun h'' he' sb => ?_⟩
    have hT2 : h''.get? s.heap.objs.size = some { cls := .type "tuple", data := .seq #[.int i tk, u] } := (sb.2 _ (Nat.ne_of_gt hel)).trans hT
    have new : ObjOk X.prog X.w (upd H s.heap.objs.size (.tup [.int (i : Nat), x])) h'' s.heap.objs.size (.tup [.int (i : Nat), x]) :=
      ⟨by show 2 ≤ sizeLine; decide, [.int i tk, u], .cons ⟨_, rfl⟩ (.cons ru .nil), ⟨_, hT2, rfl, _, rfl⟩⟩
    have I1 : Inv X pins σ (upd H s.heap.objs.size (.tup [.int (i : Nat), x])) { s with heap := h'', toks := tk + 1 } :=
      I.turnedNew (ch := [e, it]) (fun b ob hb q => (sb.2 b (fun z => hb (by simp [z]))).trans (hk b ob (fun z => hb (by simp [z])) (fun z => hb (by simp [z])) q)) hf (Nat.le_refl _) new
    refine ⟨.ref s.heap.objs.size, _, I1, rfl, ⟨_, x, rfl, I.hok.fresh (Nat.le_refl _), rfl, fun ys hy => by rw [I.tuple_inj hy hq]; exact hx⟩, ⟨⟨u, ?_⟩, hst.1.at fun o q => (sb.2 it (Ne.symm hne)).trans q, hne⟩, fun b hb => ?_⟩
    · rw [show ((i + 1 : Nat) : Int) = (i : Int) + 1 by omega]
      exact he'
    · have hb' : b < s.heap.objs.size := by
        rcases (show b = e ∨ b = it by simpa using hb) with rfl | rfl
        · exact hel
        · exact hitl
      rw [upd_ne (Nat.ne_of_lt hb')]
      exact (hf b hb).1
  done := by
    intro X hP hw hK hc i pins s σ H E I hf st hg
    subst hP hw hK
    obtain ⟨⟨old, he⟩, hit, hne⟩ := st
    obtain ⟨xs, hq, hx⟩ := hg
    obtain ⟨its, rv, p, hz⟩ := I.tuple hq
    obtain ⟨f0, f1, f2, f3, f4, f5⟩ := hf it (by simp)
    have hlen := rv.length
    have hae : e ≠ a := fun z => by
      obtain ⟨oo, h1, h2, _⟩ := p
      rw [← z, he] at h1
      cases h1
      injection h2 with q
      exact absurd q (by decide)
    have hia : it ≠ a := fun z => by
      obtain ⟨oo, h1, h2, _⟩ := p
      obtain ⟨o2, h3, h4, _⟩ := hit
      rw [← z, h3] at h1
      cases h1
      rw [h4] at h2
      injection h2 with q
      exact absurd q (by decide)
    have D := Draws.tuple (prog := X.prog) (w := X.w) (A := X.A.in1) (I.ok.hd hc) it a hia.symm its.toArray
    have en : its.toArray.size = i := by rw [List.size_toArray]; omega
    refine wpAny_pyNext_enum_endD D he (by rw [en]; exact ⟨hit, p⟩) fun h' eb => ⟨rfl, I.turned (t' := s.toks) (fun b o hb q => eb b o hb q) f0 f1 f3 f4 f5⟩
  self := fun A i s Q E st h => let ⟨⟨_, he⟩, _⟩ := st; wpAny_pyIter_enum he h
theorem walk_enumT {K : PySem.W.Frag} {a : Addr} {xs : List V} : Walk (IteT K a) xs.length (fun H => SqT K H a xs) (YPair (fun i => some (.int (i : Nat))) (fun i => xs[i]?)) := by
  refine ⟨fun i _ hi q => ⟨xs, xs[i], q, by simp [hi]⟩, fun _ q => ⟨xs, q, rfl⟩, fun i H v H' _ q y => ?_⟩
  obtain ⟨T, x, h1, h2, h3, h4⟩ := y
  exact ⟨T, .int (i : Nat), x, h1, h2, h3, rfl, h4 xs q⟩
/-- enumerate of a list or of a tuple -/
def iEnS (K : PySem.W.Frag) (ta : TA) : TI := fun σ H R => ta σ H fun vs H1 => ∃ a xs, vs = [.ref a] ∧ ((SqL K H1 a xs ∧ R (Ite K a) H1) ∨ (SqT K H1 a xs ∧ R (IteT K a) H1))
theorem pi_enS {X : Cx} {e : Expr} {ta : TA} {p pos tpos : Pos} {elts : List Expr} {kk : Nat} (hg : Gl X "enumerate") (hm : X.mg "enumerate" = Option.none) (ha : PA X [e] ta) (hs : starEach [e] X.env = [(false, eval e X.env)] := by rfl) :
    PI X (.Tuple elts kk tpos) (.Call (.Name "enumerate" p) [e] [] pos) (iEnS X.K ta) := by
  refine ⟨fun pins s σ H R I h => ?_⟩
  refine Call_ (ld_blt I hg hm boot_enumerate (PyProof.Rows.callWith_type1 (thn (ha.run pos pins s σ H _ I h) fun us s1 ⟨vs, H1, I1, r1, a, xs, ex, q1⟩ => ?_) hs rfl))
  subst ex
  obtain ⟨u, rfl, ru⟩ := r1.one
  obtain rfl : u = Value.ref a := ru
  have fr : ∀ b ∈ [s1.heap.objs.size + 1, s1.heap.objs.size], FpOk X pins H1 b := fun b hb => by
    have hle : s1.heap.objs.size ≤ b := by
      rcases (show b = s1.heap.objs.size + 1 ∨ b = s1.heap.objs.size by simpa using hb) with z | z <;> omega
    exact I1.fpOk hle (I1.hok.fresh hle)
  rcases q1 with ⟨hq, q⟩ | ⟨hq, q⟩
  · obtain ⟨its, rv, p', hz⟩ := I1.list hq
    exact call_enumerate_list p'.isList fun h' he hit hsz hk => wpAny_pyIter_enum he ⟨_, _, _, _, H1, rfl, I1.kept (t' := s1.toks) hk, turn_enum a (s1.heap.objs.size + 1) s1.heap.objs.size, ⟨⟨.none, he⟩, hit, Nat.succ_ne_self _⟩, fr, q⟩
  · obtain ⟨its, rv, p', hz⟩ := I1.tuple hq
    exact call_enumT p' fun h' he hit hsz hk => wpAny_pyIter_enum he ⟨_, _, _, _, H1, rfl, I1.kept (t' := s1.toks) hk, turn_enumT a (s1.heap.objs.size + 1) s1.heap.objs.size, ⟨⟨.none, he⟩, hit, Nat.succ_ne_self _⟩, fr, q⟩
end Tw

set_option Elab.async false
set_option linter.all false
set_option maxRecDepth 100000
set_option maxHeartbeats 2000000
/-! own rules: min(xs, key=lambda x: ys[x]), ys a name of the def -/
namespace Cl
open PySem PySem.Spec PyProof.Rows L2 LamX
section
variable {prog : Program} {w : World} {A : Around} {E : Value → Shared → Prop} {s : Shared}
/-- what the lambda's scope must say -/
structure LSc (scope : Scope) (x y : Str) : Prop where
  kind : scope.kind = .function
  co : scope.isCoroutine = false
  gen : scope.isGenerator = false
  nocell : ∀ z ∈ scope.names, z.2 ≠ .cell
  px : scope.names.lookup x = some .local
  fy : scope.names.lookup y = some .free
/-- lambda x: y[x], called with an int -/
theorem lam_ix {f l c' ck : Addr} {q x y : Str} {params : Arguments} {p1 p2 p3 : Pos} {scope : Scope} {cl : List (Str × Addr)} {pm ctv u : Value} {vs : List Value} {i : Int} {t : Tok} {Q : Value → Shared → Prop}
    (S : LSc scope x y) (hd : A.depth < recursionLimit) (hf : s.heap.get? f = some (PySem.W.kla_obj "<lambda>" q params (.Subscript (.Name y p1) (.Name x p2) p3) scope cl pm c' ctv))
    (hbind : ∀ v : Value, bindArgs (PySem.W.kla_fn "<lambda>" q params (.Subscript (.Name y p1) (.Name x p2) p3) scope cl pm (.ref c') ctv) ⟨[v], []⟩ = pure [(x, v)])
    (hcode : ∃ (oc : Obj) (us : Array Value) (tk : Tok), s.heap.get? c' = some oc ∧ oc.data = .fields us ∧ us[1]? = some (.str q tk)) (hlim : s.heap.NoLimit)
    (hck : cl.lookup y = some ck) (hcell : s.heap.IsCell ck (some (.ref l))) (hl : s.heap.IsList l vs.toArray) (h0 : 0 ≤ i) (h1 : i < 2 ^ 63) (hi : vs[i.toNat]? = some u)
    (hdx : (x == ("__debug__" : Str)) = false) (hdy : (y == ("__debug__" : Str)) = false) (hcy : (y == ("__classdict__" : Str)) = false)
    (h : ∀ h' tk, s.toks ≤ tk → (∀ b o, s.heap.get? b = some o → h'.get? b = some o) → Q u { s with heap := h', toks := tk }) : wpAny (model prog w) A (call (.ref f) [.int i t]) Q E s := by
  obtain ⟨oc, us, tq, hoc, hdc, hvc⟩ := hcode
  refine wpAny_call (PySem.W.kla_callFunE hd hf rfl S.co S.gen rfl ⟨c', oc, us, tq, rfl, hoc, hdc, hvc⟩ ?_)
  rw [hbind]
  refine wpAny_pure (wpAny_newFunctionEnv S.nocell (fun z hz => by rw [List.mem_singleton.mp hz]; exact S.px) (fun h₁ hns hsb => ⟨hlim.fresh _ hsb, ?_⟩) S.kind)
  have kp : ∀ b o, s.heap.get? b = some o → h₁.get? b = some o := fun b o e => hsb.extBut b o (Nat.ne_of_lt (Heap.lt_size e)) (Heap.get?_push_of_some _ e)
  refine PySem.W.kla_codeExpr ?_
  refine wpAny_Subscript_Name list_getitem_lookup ?_
  refine wpAny_Name (wpAny_loadName_free S.kind S.fy hck (hcell.keeps kp) ?_ hcy) hdy
  refine wpAny_Name (wpAny_loadName_local S.kind S.px hns (v := .int i t) ?_ ?_) hdx
  · simp [List.lookup]
  · have hl' : h₁.IsList l vs.toArray := hl.at fun o e => kp _ _ e
    refine ⟨hl'.typeIs, wpAny_getItem_list hl' h0 h1 (by simpa using hi) ?_⟩
    exact h h₁ _ (by show s.toks ≤ s.toks + _; omega) kp
/-- what a lambda x: y[x] is, and what it reads -/
structure LamAt (h : Heap) (f : Addr) (x y : Str) (q : Str) (params : Arguments) (p1 p2 p3 : Pos) (scope : Scope) (cl : List (Str × Addr)) (pm ctv : Value) (c' ck l : Addr) (us : List Value) : Prop where
  fn : h.get? f = some (PySem.W.kla_obj "<lambda>" q params (.Subscript (.Name y p1) (.Name x p2) p3) scope cl pm c' ctv)
  code : ∃ (oc : Obj) (us : Array Value) (tk : Tok), h.get? c' = some oc ∧ oc.data = .fields us ∧ us[1]? = some (.str q tk)
  lim : h.NoLimit
  hck : cl.lookup y = some ck
  cell : h.IsCell ck (some (.ref l))
  lst : h.IsList l us.toArray
theorem LamAt.keeps {h h' : Heap} {f : Addr} {x y : Str} {q : Str} {params : Arguments} {p1 p2 p3 : Pos} {scope : Scope} {cl : List (Str × Addr)} {pm ctv : Value} {c' ck l : Addr} {us : List Value}
    (L : LamAt h f x y q params p1 p2 p3 scope cl pm ctv c' ck l us) (k : ∀ b o, h.get? b = some o → h'.get? b = some o) : LamAt h' f x y q params p1 p2 p3 scope cl pm ctv c' ck l us :=
  ⟨k _ _ L.fn, let ⟨oc, us, tk, a, b, c⟩ := L.code; ⟨oc, us, tk, k _ _ a, b, c⟩, L.lim.keeps k, L.hck, L.cell.keeps k, L.lst.at fun o e => k _ _ e⟩
theorem min_lam {f a l c' ck : Addr} {q x y : Str} {params : Arguments} {p1 p2 p3 : Pos} {scope : Scope} {cl : List (Str × Addr)} {pm ctv : Value} {cs us : List Value} {ns : Nat → Int} {kf : Nat → Int} {Q : Value → Shared → Prop}
    (hh : A.handled = none) (S : LSc scope x y) (hd : A.depth < recursionLimit) (L : LamAt s.heap f x y q params p1 p2 p3 scope cl pm ctv c' ck l us)
    (hbind : ∀ v : Value, bindArgs (PySem.W.kla_fn "<lambda>" q params (.Subscript (.Name y p1) (.Name x p2) p3) scope cl pm (.ref c') ctv) ⟨[v], []⟩ = pure [(x, v)])
    (hdx : (x == ("__debug__" : Str)) = false) (hdy : (y == ("__debug__" : Str)) = false) (hcy : (y == ("__classdict__" : Str)) = false)
    (ht : s.heap.IsTuple a cs.toArray) (hc : ∀ i, i < cs.length → ∃ t, cs[i]? = some (.int (ns i) t)) (hne : 0 < cs.length)
    (hk : ∀ i, i < cs.length → 0 ≤ ns i ∧ ns i < 2 ^ 63 ∧ ∃ t, us[(ns i).toNat]? = some (.int (kf i) t))
    (h : ∀ v h' tk, cs[argBest (fun i j => decide (kf i < kf j)) (cs.length - 1)]? = some v → (∀ b o, s.heap.get? b = some o → h'.get? b = some o) → Q v { s with heap := h', toks := tk }) :
    wpAny (model prog w) A (call (.builtin "min") [.ref a] [(Str.ofString "key", .ref f)]) Q E s := by
  have hd1 : A.in1.depth < recursionLimit := hd
  refine call_min_walkK (PySem.W.iter_tupleW (A := A.in1) hh ht fun s₂ e2 W st hfp hfr kp2 => ?_)
  have sz2 : s.heap.objs.size < s₂.heap.objs.size := hfp _ List.mem_cons_self
  have old : ∀ {s' : Shared}, Moved [s₂.heap.objs.size, s.heap.objs.size] (fun a b => b = a) s₂ s' → ∀ b o, s.heap.get? b = some o → s'.heap.get? b = some o := fun {s'} m b o e => by
    have lt := Heap.lt_size e
    refine m.heap b o (fun hm => ?_) (kp2 b o e)
    rcases List.mem_cons.mp hm with z | hm
    · rw [z] at lt
      exact Nat.lt_irrefl _ (Nat.lt_trans lt sz2)
    · rw [List.mem_singleton.mp hm] at lt
      exact Nat.lt_irrefl _ lt
  have szc : cs.toArray.size = cs.length := by simp
  refine ⟨s.heap.objs.size, [s.heap.objs.size, a], [s.heap.objs.size], (fun a b => b = a), cs.toArray.size, _, _, fun s' => Moved [s₂.heap.objs.size, s.heap.objs.size] (fun a b => b = a) s₂ s', fun i k _ => ∃ t, k = .int (kf i) t, fun i j => decide (kf i < kf j), rfl, W, st, hfp, by rw [szc]; exact hne, ⟨?_, ?_, ?_, ?_⟩, Moved.refl fun _ => rfl, ?_⟩
  · exact fun s1 s' J m => J.trans (fun _ _ _ h1 h2 => h2.trans h1) m
  · exact fun i k s1 s' v _ => v
  · intro i v s1 o Q' E' hi hP J stI hS cont
    rw [szc] at hi
    obtain ⟨t, ec⟩ := hc i hi
    have ev : v = .int (ns i) t := by
      have hP' : cs[i]? = some v := by simpa using hP
      rw [ec] at hP'
      exact (Option.some.inj hP').symm
    subst ev
    obtain ⟨h0, h1, tk, eu⟩ := hk i hi
    have L1 := L.keeps (old J)
    refine lam_ix S hd1 L1.fn hbind L1.code L1.lim L1.hck L1.cell L1.lst h0 h1 eu hdx hdy hcy fun h' tk' hle kp => ?_
    exact cont _ _ (J.then_heap hle fun b o _ e => kp b o e) (W.frame _ s1 h' tk' stI hle fun b _ o e => kp b o e) (kp _ _ hS) ⟨_, rfl⟩ fun j k' z => z
  · intro i j ki kj s1 Q' E' J vi vj q
    exact CmpOf.ints_lt (prog := prog) (w := w) (A := A.in1) (P := fun i v => ∃ t, v = .int (kf i) t) kf (fun i v h => h) i j ki kj s1 Q' E' vi vj q
  · intro v s' hP J
    rw [szc] at hP
    have hP' : cs[argBest (fun i j => decide (kf i < kf j)) (cs.length - 1)]? = some v := by simpa using hP
    have e : s' = { s with heap := s'.heap, toks := s'.toks } := by
      obtain ⟨hp, g, d, tk, os⟩ := s'
      subst e2
      have h1 : g = s.gens := J.gens
      have h2 : d = s.drawn := J.drawn
      have h3 : os = s.os := J.os
      subst h1 h2 h3
      rfl
    rw [e]
    exact h v s'.heap s'.toks hP' (old J)
end
/-- the first of the least -/
def FirstLeast (kf : Nat → Int) (n j : Nat) : Prop := j < n ∧ (∀ i, i < n → kf j ≤ kf i) ∧ ∀ i, i < j → kf j < kf i
theorem best_is (kf : Nat → Int) : ∀ n, FirstLeast kf (n + 1) (argBest (fun i j => decide (kf i < kf j)) n)
  | 0 => ⟨Nat.zero_lt_one, fun i h => by rw [Nat.lt_one_iff.mp h]; exact Int.le_refl _, fun i h => nomatch h⟩
  | n + 1 => by
    obtain ⟨a, b, c⟩ := best_is kf n
    show FirstLeast kf (n + 2) (if decide (kf (n + 1) < kf (argBest (fun i j => decide (kf i < kf j)) n)) = true then n + 1 else argBest (fun i j => decide (kf i < kf j)) n)
    by_cases h : kf (n + 1) < kf (argBest (fun i j => decide (kf i < kf j)) n)
    · rw [if_pos (decide_eq_true h)]
      refine ⟨by omega, fun i hi => ?_, fun i hi => ?_⟩
      · by_cases e : i = n + 1
        · rw [e]
          exact Int.le_refl _
        · have := b i (by omega)
          omega
      · have := b i (by omega)
        omega
    · rw [if_neg (fun z => h (of_decide_eq_true z))]
      refine ⟨by omega, fun i hi => ?_, c⟩
      by_cases e : i = n + 1
      · rw [e]
        omega
      · exact b i (by omega)
theorem first_one {kf : Nat → Int} {n i j : Nat} (a : FirstLeast kf n i) (b : FirstLeast kf n j) : i = j := by
  rcases Nat.lt_trichotomy i j with h | h | h
  · have h1 := b.2.2 i h
    have h2 := a.2.1 j b.1
    omega
  · exact h
  · have h1 := a.2.2 j h
    have h2 := b.2.1 i a.1
    omega
/-- the item of ns whose key in ks is the least, the first such one -/
def LeastAt (ks ns : List Int) (m : Int) : Prop := ∃ j, FirstLeast (fun i => ks.getD (ns.getD i 0).toNat 0) ns.length j ∧ m = ns.getD j 0
theorem _root_.LamX.ExtN.rd {H H' : Hp} (e : ExtN H H') {a : Addr} {u : HO} (n : ∀ ps, u ≠ .tbl ps) (h : Rd H a u) : Rd H' a u := by
  rcases h with h | ⟨o, h⟩
  · exact .inl (e _ _ h n)
  · exact .inr ⟨o, e _ _ h fun ps z => nomatch z⟩
theorem _root_.LamX.ExtN.sqL {K : PySem.W.Frag} {H H' : Hp} (e : ExtN H H') {a : Addr} {xs : List V} (h : SqL K H a xs) : SqL K H' a xs := h.elim (fun h => .inl (e.rd (fun ps z => nomatch z) h)) .inr
theorem _root_.LamX.ExtN.sqT {K : PySem.W.Frag} {H H' : Hp} (e : ExtN H H') {a : Addr} {xs : List V} (h : SqT K H a xs) : SqT K H' a xs := h.elim (fun h => .inl (e.rd (fun ps z => nomatch z) h)) .inr
section
variable {X : Cx}
def tMinLam (K : PySem.W.Frag) (T : List (Addr × Str)) (j : Nat) (te : TE) : TE := fun σ H Q => te σ H fun v H1 => ∃ (a l : Addr) (ns ks : List Int), v = .ref a ∧ SqT K H1 a (ns.map V.int) ∧ σ[j]? = some (some (.ref l)) ∧ SqL K H1 l (ks.map V.int) ∧ 0 < ns.length ∧ (∀ n ∈ ns, 0 ≤ n ∧ n < ks.length) ∧
  Tabs T H1 ∧ ∀ (m : Int) (H2 : Hp), ExtN H1 H2 → Tabs T H2 → LeastAt ks ns m → Q (.int m) H2
/-- min(e, key=lambda x: y[x]), y a name of the def that it shares with the lambda -/
theorem pe_minlam {T : List (Addr × Str)} {c P : Addr} {p p1 p2 p3 lpos kpos pos : Pos} {e : Expr} {te : TE} {x y : Str} {j : Nat} {params : Arguments} {scope : Scope}
    (hg : Gl X "min") (hm : X.mg "min" = none) (he : PE X e te) (hd : X.A.depth < recursionLimit) (hh : X.A.handled = none) (TB : TabB X.base X.mg c P) (hcode : X.env.code = .ref c) (hmT : (P, X.env.qual ++ "<lambda>") ∈ T)
    (hu : ∀ q ∈ T, q.1 = P → q.2 = X.env.qual ++ "<lambda>") (S : LSc scope x y) (hfy : X.env.scope.names.lookup y = some .cell) (hfr : ∀ z ∈ scope.names, z.2 = .free → z.1 = y) (hN : X.N[j]? = some y) (hdef : defaultsOf params X.env = ([], []))
    (hbind : ∀ (q : Str) (cl : List (Str × Addr)) (pm cv ctv v : Value), bindArgs (PySem.W.kla_fn "<lambda>" q params (.Subscript (.Name y p1) (.Name x p2) p3) scope cl pm cv ctv) ⟨[v], []⟩ = pure [(x, v)])
    (hs : starEach [e] X.env = (false, eval e X.env) :: starEach [] X.env := by rfl)
    (hdx : (x == ("__debug__" : Str)) = false := by decide) (hdy : (y == ("__debug__" : Str)) = false := by decide) (hcy : (y == ("__classdict__" : Str)) = false := by decide) :
    PE X (.Call (.Name "min" p) [e] [⟨some "key", .Lambda params (.Subscript (.Name y p1) (.Name x p2) p3) scope lpos, kpos⟩] pos) (tMinLam X.K T j te) := by
  refine ⟨fun pins s σ H Q I h => ?_⟩
  have hfree : ∀ z ∈ scope.names, z.2 = .free → ∃ c, X.env.cells.lookup z.1 = some c := fun z hz e => I.ok.has _ (.inl (by rw [hfr z hz e]; exact hfy))
  refine wpAny_Call_Name_kw (ld_blt I hg hm (u := .builtin "min") (by decide +kernel) ?_)
  refine PyProof.Rows.callWith_kw ?_ (by rw [hs]; rfl) (by rw [hs]; rfl) (by rfl) (by rfl)
  rw [hs]
  show wpAny _ _ (spliced ((false, eval e X.env) :: backTo pos (starEach [] X.env))) _ _ s
  refine Calls.spliced_cons (thn (he.run pins s σ H _ I h) fun u s1 ⟨v, H1, I1, r1, a, l, ns, ks, ev, ht, hσ, hl, hne, hin, hT, q⟩ => Calls.spliced_nil ?_)
  subst ev
  obtain rfl : u = Value.ref a := r1
  show wpAny _ _ (evalAll ((do let v ← eval (.Lambda params (.Subscript (.Name y p1) (.Name x p2) p3) scope lpos) X.env; standAt pos; pure v) :: [])) _ _ s1
  refine wpAny_evalAll_cons (wpAny_bind (lam_make2 I1 TB hcode hmT hu hT hdef hfree fun f c' pm ctv H2 s2 I2 eN T2 hf hfn hff hco => wpAny_bind (wpAny_standAt (wpAny_pure (wpAny_evalAll_nil ?_)))))
  show wpAny _ _ (call (.builtin "min") [.ref a] [(Str.ofString "key", .ref f)]) _ _ s2
  obtain ⟨cs, rc, tc, _⟩ := I2.tuple (eN.sqT ht)
  obtain ⟨us, ru, pl, hz2⟩ := I2.list (eN.sqL hl)
  obtain ⟨m, _, look⟩ := I2.loc
  obtain ⟨u0, r0, lk⟩ := look j y _ hN hσ (.inr (.inl hfy))
  obtain rfl : u0 = Value.ref l := r0
  have cellAt : ∃ ck, X.env.cells.lookup y = some ck ∧ s2.heap.IsCell ck (some (.ref l)) := by
    rcases lk with ⟨k, _⟩ | ⟨_, ck, e1, e2⟩
    · rw [show X.env.kindOf y = some .cell from hfy] at k
      cases k
    · exact ⟨ck, e1, e2⟩
  obtain ⟨ck, eck, hcell⟩ := cellAt
  obtain ⟨⟨oc, vs, tk, o1, o2, o3⟩, _, _⟩ := I2.hok c' _ hco
  have lc : cs.length = ns.length := by rw [← rc.length, List.length_map]
  have lu : us.length = ks.length := by rw [← ru.length, List.length_map]
  have nsAt : ∀ i, i < ns.length → ∃ t, cs[i]? = some (.int (ns.getD i 0) t) := fun i hi => by
    obtain ⟨z, ez, rz⟩ := rc.get (i := i) (x := V.int (ns.getD i 0)) (by rw [List.getElem?_map, List.getD_eq_getElem?_getD, List.getElem?_eq_getElem hi]; rfl)
    obtain ⟨t, rfl⟩ := rz
    exact ⟨t, ez⟩
  refine min_lam (ns := fun i => ns.getD i 0) (kf := fun i => ks.getD (ns.getD i 0).toNat 0) hh S hd ⟨hf, ⟨oc, vs, tk, o1, o2, o3⟩, I2.nolimit, NdefX.clo_has hfree (PySem.mem_of_lookup S.fy) eck, hcell, pl.isList⟩ (fun v => hbind _ _ _ _ _ v) hdx hdy hcy tc (fun i hi => nsAt i (by omega)) (by omega)
    (fun i hi => ?_) fun v h' tk2 hv kp => ?_
  · have hi' : i < ns.length := by omega
    have hmem : ns.getD i 0 ∈ ns := by rw [List.getD_eq_getElem?_getD, List.getElem?_eq_getElem hi']; exact List.getElem_mem hi'
    obtain ⟨b0, b1⟩ := hin _ hmem
    have hs63 := line63
    rw [List.length_map] at hz2
    have hk' : (ns.getD i 0).toNat < ks.length := by omega
    obtain ⟨z, ez, rz⟩ := ru.get (i := (ns.getD i 0).toNat) (x := V.int (ks.getD (ns.getD i 0).toNat 0)) (by rw [List.getElem?_map, List.getD_eq_getElem?_getD (l := ks), List.getElem?_eq_getElem hk']; rfl)
    obtain ⟨t, rfl⟩ := rz
    exact ⟨b0, by omega, t, ez⟩
  · obtain ⟨n, en⟩ : ∃ n, ns.length = n + 1 := ⟨ns.length - 1, by omega⟩
    have fl := best_is (fun i => ks.getD (ns.getD i 0).toNat 0) n
    rw [← en] at fl
    rw [lc, show ns.length - 1 = n by omega] at hv
    obtain ⟨t, et⟩ := nsAt _ fl.1
    rw [et] at hv
    cases hv
    exact ⟨.int _, H2, I2.kept kp, ⟨t, rfl⟩, q _ H2 eN T2 ⟨_, fl, rfl⟩⟩
end
end Cl

set_option Elab.async false
set_option linter.all false
set_option maxRecDepth 100000
set_option maxHeartbeats 2000000
/-! own rule: list(o), o an instance with an __iter__ over its tuple and a __len__ -/
namespace Tw
open PySem PySem.Spec PyProof.Rows L2
def rListO (K : PySem.W.Frag) (C : Addr) (fld : Str) (sp : Sp) (E : XK) : List V → Hp → VK → Prop := fun xs H Q => ∃ (a dx : Addr) (fs : List (Str × V)) (t : Addr) (zs : List V), xs = [.ref a] ∧ H a = some (.ins C dx fs) ∧ fs.lookup fld = some (.ref t) ∧ SqT K H t zs ∧ zs.length ≤ 900 ∧
  sp [.ref a] H (fun v H' => ∃ n : Nat, v = .int n ∧ n < 1000 ∧ H' = H) E ∧ ∀ q, H q = none → Q (.ref q) (upd H q (.lst zs))
theorem ty_ne {a b : String} (h : Value.type a = Value.type b) (n : decide (a = b) = false) : False := by
  injection h with h
  exact of_decide_eq_false n h
theorem if_yes {α : Type} {M : Model} {A : Around} {E : Value → Shared → Prop} {s : Shared} {c : Bool} {a b : Sem α} {Q : α → Shared → Prop} (hc : c = true) (h : wpAny M A a Q E s) : wpAny M A (if c = true then a else b) Q E s := by
  rw [hc, if_pos rfl]
  exact h
section
variable {X : Cx} {k : Nat} {f : Addr} {fd : FuncData} {ps : List Str} {sp : Sp} {A1 : Around} {pins : List (Addr × Obj)} {σ : L2.St} {H : Hp} {s : Shared} {Q : VK}
/-- a def that raises nothing, called within a built-in -/
theorem run_sub0 {us : List Value} {vs : List V} {R : Value → Shared → Prop} (F : FnOk X.prog X.w X.K X.mg X.base CX0 k f fd ps sp) (sb : Sub X k A1) (hb : L2.Binds X.K fd ps []) (I : Inv X pins σ H s) (r : Vals vs us) (h : sp vs H Q E0) :
    wpAny (model X.prog X.w) A1 (call (.ref f) us) (EP X pins σ Q) R s := by
  have hl : us.length = ps.length := by rw [← r.length]; exact F.len _ _ _ _ h
  have hb1 : BindsTo s fd ⟨us, []⟩ (ps.zip us) := by
    have z := hb s us I.kIn (by rw [List.append_nil]; exact hl)
    rw [List.append_nil] at z
    exact z
  refine wpAny_call (codeAny_mono (F.run A1 X.stack s H ⟨us, []⟩ us vs Q E0 sb.room (Sub.env0 sb I) hb1 r h) fun z s' hq => ?_)
  match z, hq with
  | .error e, hq => exact False.elim hq
  | .ok (.ret u), hq => exact I.after hq
  | .ok .next, hq => exact False.elim hq
  | .ok .brk, hq => exact False.elim hq
  | .ok .cont, hq => exact False.elim hq
end
section
variable {X : Cx} {kI k : Nat} {fi fl C : Addr} {fdI fdL : FuncData} {psL : List Str} {spL : Sp} {fld : Str}
theorem call_listO (hdI : Dn X.K C "__iter__" fi) (FI : FnIt X.prog X.w X.K X.mg X.base k fi fdI ["self"] (spIter X.K C fld)) (bI : L2.Binds X.K fdI ["self"] [])
    (hdL : Dn X.K C "__len__" fl) (FL : FnOk X.prog X.w X.K X.mg X.base CX0 k fl fdL psL spL) (bL : L2.Binds X.K fdL psL []) (hr : Room (k + 3) X.A) : CallR X (.type "list") (rListO X.K C fld spL E0) := by
  intro pins s σ H xs us Q I rv h
  obtain ⟨a, dx, fs, t, zs, rfl, ha, hf, ht, hz, hlen, q⟩ := h
  obtain ⟨u, rfl, ru⟩ := rv.one
  cases ru
  have sb1 : Sub X (k + 1) X.A.in1.in1 := Sub.in1 (Sub.in1 (⟨hr, rfl⟩ : Sub X (k + 3) X.A))
  have sb : Sub X k X.A.in1.in1 := sb1.mono (Nat.le_succ k)
  refine callType_codes (Q₁ := fun obj s₁ => obj = .ref s.heap.objs.size ∧ s₁ = { s with heap := s.heap.push { cls := .type "list", data := .seq #[] } }) PySem.F.called_list (PySem.F.typeCall_list_1 _) PySem.F.entry_list_init
    (code_list_new _ ⟨rfl, rfl⟩) fun obj s₁ h₁ => ?_
  obtain ⟨rfl, rfl⟩ := h₁
  have hS : (s.heap.push { cls := .type "list", data := .seq #[] }).get? s.heap.objs.size = some { cls := .type "list", data := .seq #[] } := Heap.get?_push_size _ rfl
  refine ⟨⟨_, hS, rfl⟩, PySem.F.args_list_init_2 _ _, ?_⟩
  have nS : H s.heap.objs.size = none := I.hok.fresh (Nat.le_refl _)
  have fS : FpOk X pins H s.heap.objs.size := I.fpOk (Nat.le_refl _) nS
  have I1 : Inv X pins σ H { s with heap := s.heap.push { cls := .type "list", data := .seq #[] } } := I.kept (t' := s.toks) fun b u e => Heap.get?_push_of_some _ e
  show wpAny _ _ (do let old ← Builtin.List.listItems (.ref s.heap.objs.size); Builtin.List.listUpdate (.ref s.heap.objs.size) (fun _ => #[]); letGo old.toList.reverse; Builtin.List.listExtendWith (.ref s.heap.objs.size) (.ref a) .none) _ _ _
  refine wpAny_bind ?_
  unfold Builtin.List.listItems
  refine wpAny_bind (wpAny_seqItems hS rfl (wpAny_pure ?_))
  show wpAny _ _ (updateSeq s.heap.objs.size (fun _ => #[]) >>= fun _ => letGo (#[] : Array Value).toList.reverse >>= fun _ => Builtin.List.listExtendWith (.ref s.heap.objs.size) (.ref a) .none) _ _ _
  refine wpAny_bind (wpAny_updateSeq hS rfl ?_)
  have hS2 := Heap.get?_update_self (h := s.heap.push { cls := .type "list", data := .seq #[] }) (f := Obj.mapSeq fun _ => #[]) hS rfl
  have I2 := I1.turnedL (h' := (s.heap.push { cls := .type "list", data := .seq #[] }).update s.heap.objs.size (Obj.mapSeq fun _ => #[])) (t' := s.toks) (ch := [s.heap.objs.size]) (fun b o hb e => (Heap.get?_update_other _ _ (fun z => hb (by simp [z]))).trans e) (fun b hb => by rw [List.mem_singleton.mp hb]; exact fS)
  refine wpAny_bind (wpAny_letGo ?_)
  generalize hSa : s.heap.objs.size = S at *
  generalize hh2 : (s.heap.push { cls := .type "list", data := .seq #[] }).update S (Obj.mapSeq fun _ => #[]) = h2 at *
  have szS : S < h2.objs.size := Heap.lt_size hS2
  obtain ⟨mA, O, rr, _, _, _⟩ := ins_get I2.hok ha
  obtain ⟨od, J, hl⟩ := O.look
  obtain ⟨m0, hF⟩ := I2.fr
  have hne : S ≠ a := fun z => by rw [← z] at ha; rw [nS] at ha; cases ha
  have h1 : Builtin.List.listSameRef (.ref S) (.ref a) = false := by simp [Builtin.List.listSameRef, hne]
  unfold Builtin.List.listExtendWith
  refine wpAny_bind (J.type.here ?_)
  have n2 : (Value.ref C == Value.type "list") = false := rfl
  have n3 : (Value.ref C == Value.type "tuple") = false := rfl
  simp only [h1, n2, n3, Bool.or_false, Bool.false_eq_true, if_false]
  have I2p := I2.pinned (fp := [S]) (fun b hb => by rw [List.mem_singleton.mp hb]; exact fS) (fun b hb => by rw [List.mem_singleton.mp hb]; exact ⟨_, hS2, fun v z => nomatch z⟩)
  refine wpAny_bind (PySem.W.owit_iter hF I2.ok.mod.kin J hdI.at_ hdI.fn (thn (run_iter FI sb bI I2p ha hf ht) fun r s3 ⟨it, er, hn, h0, I3⟩ => ?_))
  subst er
  have e2 : upd H it (ItT t it 0) it = some (ItT t it 0) := upd_same
  have g : s3.heap.get? it = some (itTup t 0) := (I3.hok it _ e2).1
  have hS3 := (I3.pin (S, _) (List.mem_append_right _ (List.mem_append_right _ (mem_pinsAt (List.mem_singleton.mpr rfl) hS2)))).1
  have hTy : s3.TypeIs (.ref it) "tuple_iterator" := ⟨_, g, rfl⟩
  have fIt := ItX.inv_fp I3 e2 (Nat.le_trans I2.sz hn)
  have I4 := ItX.inv_drop I3 e2
  rw [ItX.dropH_upd h0] at I4 fIt
  unfold PySem.W.OwitIt
  refine wpAny_specialOf (name := Str.ofString "__next__") hTy PySem.F.slot_tuple_iterator_next.lookup ?_
  have I5 := I4.pinned (fp := [it]) (fun b hb => by rw [List.mem_singleton.mp hb]; exact fIt) (fun b hb => by rw [List.mem_singleton.mp hb]; exact ⟨_, g, fun v z => nomatch z⟩)
  show wpAny _ X.A.in1.in1 (holding [.ref it] (Builtin.List.listLengthHint (.ref a)) >>= _) _ _ s3
  obtain ⟨mA5, O5, rr5, _, _, _⟩ := ins_get I5.hok ha
  obtain ⟨od5, J5, hl5⟩ := O5.look
  obtain ⟨m5, hF5⟩ := I5.fr
  refine wpAny_bind (wpAny_holding ?_)
  have lenOk : ∀ {R : Value → Shared → Prop}, wpAny (model X.prog X.w) X.A.in1.in1 (call (.builtin "len") [.ref a]) (fun r s' => ∃ (n : Nat) (tk : Tok), r = .int n tk ∧ n < 1000 ∧ Inv X (pins ++ pinsAt [S] h2 ++ pinsAt [it] s3.heap) σ H s') R s3 := by
    intro R
    refine PySem.W.len_K hF5 I5.ok.mod.kin J5 hdL.at_ hdL.fn (thn (run_sub0 FL (Sub.in1 (Sub.mono sb1 (Nat.le_refl _))) bL I5 (.cons (relR a) .nil) hlen) fun r s' ⟨z, H', I', rz, n, ez, hn, eH⟩ => ?_)
    subst ez
    rw [eH] at I'
    obtain ⟨tk, rfl⟩ := rz
    exact ⟨⟨by omega, by omega⟩, n, _, rfl, hn, I'.tok _⟩
  unfold Builtin.List.listLengthHint
  refine wpAny_bind (wpAny_bind (J5.type.here ((PySem.W.looks_findIn I5.kIn hdL.at_).here ?_)))
  refine PySem.W.KFB.if_not rfl ?_
  refine if_yes rfl ?_
  refine wpAny_bind (wpAny_rule ?_)
  refine wpAny_bind (wpAny_attempt (thn lenOk fun r s6 ⟨n, tk, er, hn6, I6⟩ => ?_))
  subst er
  refine wpAny_bind (wpAny_of_eq (a := some ((n : Nat) : Int)) (by rfl) ?_)
  refine PySem.W.KFB.if_not (by unfold Builtin.List.listTooLong; exact decide_eq_false (by rw [sizeLine_eq, Int.toNat_natCast]; omega)) ?_
  refine wpAny_pure ?_
  -- the loop
  have I7 : Inv X pins σ H s6 := I6.unpinned.unpinned
  have hS6 := (I6.pin (S, _) (List.mem_append_right _ (List.mem_append_left _ (List.mem_append_right _ (mem_pinsAt (List.mem_singleton.mpr rfl) hS2))))).1
  have g6 := (I6.pin (it, _) (List.mem_append_right _ (List.mem_append_right _ (mem_pinsAt (List.mem_singleton.mpr rfl) g)))).1
  have fIt2 : FpOk X pins H it := ⟨fIt.1, fIt.2.1, fIt.2.2.1, fIt.2.2.2.1, fIt.2.2.2.2.1, fun p hp => fIt.2.2.2.2.2 p ((List.mem_append.mp hp).elim (fun z => List.mem_append_left _ z) fun z => List.mem_append_right _ (List.mem_append_left _ z))⟩
  have Sne' : S ≠ it := fun z => by
    rw [z, g6] at hS6
    exact ty_ne (show Value.type "tuple_iterator" = Value.type "list" from congrArg Obj.cls (Option.some.inj hS6)) (by decide +kernel)
  have loop : ∀ (s7 : Shared) (c : Nat), Inv X pins σ H s7 → s7.heap.get? S = some { cls := .type "list", data := .seq #[] c } → s7.heap.get? it = some (itTup t 0) →
      codeAny (model X.prog X.w) X.A.in1 (.builtin "list.extend.loop" ⟨[.ref S, .ref it, .none], []⟩) (wants (fun r s₂ => r = .none ∧ EP X pins σ Q (.ref S) s₂) X.xe) s7 := by
    intro s7 c J7 hS7 g7
    obtain ⟨its, rz, pl, hz2⟩ := J7.tuple ht
    have tne : t ≠ it := fun z => by
      obtain ⟨o, e1, e2, _⟩ := pl
      rw [z, g7] at e1
      rw [← Option.some.inj e1] at e2
      exact ty_ne (show Value.type "tuple_iterator" = Value.type "tuple" from e2) (by decide +kernel)
    have Sne : S ≠ it := fun z => by
      rw [z, g7] at hS7
      exact ty_ne (show Value.type "tuple_iterator" = Value.type "list" from congrArg Obj.cls (Option.some.inj hS7)) (by decide +kernel)
    have St : S ≠ t := fun z => by
      obtain ⟨o, e1, e2, _⟩ := pl
      rw [← z, hS7] at e1
      rw [← Option.some.inj e1] at e2
      exact ty_ne (show Value.type "list" = Value.type "tuple" from e2) (by decide +kernel)
    have li : its.length = zs.length := rz.length.symm
    have W := (PySem.Walks.tuple (prog := X.prog) (w := X.w) (A := X.A.in1.in1) sb1.room.hd it t tne its.toArray).toS
    refine PySem.codeAny_extend_loopS (A := X.A.in1) W (by rw [List.size_toArray, sizeLine_eq]; omega) S (fun z => ?_) .none _ 0 s7 #[] c rfl (Nat.zero_le _) ⟨⟨_, g7, rfl, rfl⟩, pl⟩ hS7 (PySem.ItemsOf.nil _) fun s8 acc c8 m hS8 hit => ?_
    · rcases List.mem_cons.mp z with z | z
      · exact Sne z
      · exact St (List.mem_singleton.mp z)
    have eacc : acc = its.toArray := by
      refine Array.ext_getElem? fun j => ?_
      by_cases hj : j < acc.size
      · rw [Array.getElem?_eq_getElem hj]
        exact (hit.2 j _ (Array.getElem?_eq_getElem hj)).symm
      · rw [Array.getElem?_eq_none (by omega), Array.getElem?_eq_none (by rw [← hit.1]; omega)]
    subst eacc
    have J8 := J7.turnedL (h' := s8.heap) (t' := s8.toks) (ch := [S, it]) (fun b o hb e => m.heap b o hb e) (fun b hb => by
      rcases List.mem_cons.mp hb with z | z
      · rw [z]; exact fS
      · rw [List.mem_singleton.mp z]; exact fIt2)
    have J9 := J8.take (h' := s8.heap) (t' := s8.toks) (it := S) (o := .lst zs) (fun _ _ _ e => e) fS ⟨by rw [sizeLine_eq]; omega, its, c8, rz, hS8⟩
    have e8 : s8 = { s7 with heap := s8.heap, toks := s8.toks } := Moved.eq_with m
    rw [e8]
    exact ⟨rfl, .ref S, _, J9, rfl, q S nS⟩
  refine wpAny_ite_split (fun _ => ?_) (fun _ => wpAny_pure ⟨plainId_quiet PySem.F.plain_extend_loop _, loop s6 _ I7 hS6 g6⟩)
  refine wpAny_bind (wpAny_rule ?_)
  refine wpAny_bind ?_
  show wpAny _ _ (updateSeq S (·.push .none) >>= fun _ => updateSeq S (·.pop)) _ _ _
  refine wpAny_bind (wpAny_updateSeq hS6 rfl ?_)
  have e9 := Heap.get?_update_self (h := s6.heap) (f := Obj.mapSeq (·.push Value.none)) hS6 rfl
  refine wpAny_updateSeq e9 rfl ?_ (by show 1 ≤ sizeLine; rw [sizeLine_eq]; decide) (by show 0 ≤ sizeLine + 1; exact Nat.zero_le _)
  have e10 := Heap.get?_update_self (h := s6.heap.update S (Obj.mapSeq (·.push Value.none))) (f := Obj.mapSeq (·.pop)) e9 rfl
  have J := I7.turnedL (h' := (s6.heap.update S (Obj.mapSeq (·.push Value.none))).update S (Obj.mapSeq (·.pop))) (t' := s6.toks) (ch := [S]) (fun b o hb e => (Heap.get?_update_other _ _ (fun z => hb (by simp [z]))).trans ((Heap.get?_update_other _ _ (fun z => hb (by simp [z]))).trans e)) (fun b hb => by rw [List.mem_singleton.mp hb]; exact fS)
  refine wpAny_pure ⟨plainId_quiet PySem.F.plain_extend_loop _, loop _ _ J e10 ?_⟩
  exact (Heap.get?_update_other _ _ Sne').trans ((Heap.get?_update_other _ _ Sne').trans g6)
end
end Tw

set_option Elab.async false
set_option linter.all false
set_option maxRecDepth 100000
set_option maxHeartbeats 2000000
/-! own rule: sorted(t), t a tuple of whole numbers -/
namespace Tw
open PySem PySem.Spec PyProof.Rows L2
section
variable {prog : Program} {w : World} {A : Around} {E : Value → Shared → Prop} {s : Shared}
/-- a tuple's items, gathered: they are met as a list's are -/
theorem gather_tup {t : Addr} {vs : List Value} {Q : List Value → Shared → Prop} (ht : s.heap.IsTuple t vs.toArray)
    (h : Q vs { s with heap := (s.heap.push (seqObj "list" #[] 0)).update s.heap.objs.size (Obj.mapSeq (· ++ vs.toArray)) }) (hz : vs.length ≤ sizeLine) :
    wpAny (model prog w) A (collect (.ref t)) Q E s := by
  obtain ⟨o, ho, hc, n, hd⟩ := ht
  unfold collect
  refine wpAny_bind (wpAny_runValue (codeAny_builtin entry_proto_collect' ?_))
  show wpAny _ _ (do again (.builtin "list.__iadd__" ⟨[← newList [], .ref t], []⟩)) _ _ s
  refine wpAny_bind (wpAny_newList (wpAny_pure ⟨Code.quiet_builtin _ (by decide +kernel), codeAny_builtin entry_list_iadd' ?_⟩))
  show wpAny _ _ (Builtin.List.listExtendWith (.ref s.heap.objs.size) (.ref t) (.ref s.heap.objs.size)) _ _ { s with heap := s.heap.push (seqObj "list" #[] 0) }
  have ho2 : (s.heap.push (seqObj "list" #[] 0)).get? t = some o := Heap.get?_push_of_some _ ho
  unfold Builtin.List.listExtendWith
  refine wpAny_bind (wpAny_typeOf (T := "tuple") ⟨o, ho2, hc⟩ ?_)
  have tt : (Value.type "tuple" == Value.type "tuple") = true := by rfl
  rw [if_pos (by rw [tt]; simp)]
  refine wpAny_bind (listItems_at ho2 hd ?_)
  refine wpAny_bind (listItems_at (xs := #[]) (n := 0) (Heap.get?_push_size _ rfl) rfl ?_)
  rw [if_neg (by simp)]
  refine wpAny_bind (listUpdate_at (xs := #[]) (n := 0) (Heap.get?_push_size _ rfl) rfl ?_ (Nat.zero_le _) (by show (#[] ++ vs.toArray).size ≤ sizeLine + 1; simp only [Array.size_append, List.size_toArray, List.length_nil]; omega))
  refine wpAny_pure ?_
  refine wpAny_bind (wpAny_load (get?_update_seq (Heap.get?_push_size _ rfl) _) ?_)
  show wpAny _ _ (pure ((#[] : Array Value) ++ vs.toArray).toList) Q E _
  rw [show ((#[] : Array Value) ++ vs.toArray).toList = vs by simp]
  exact wpAny_pure h
end
def rSortedTu (K : PySem.W.Frag) : List V → Hp → VK → Prop := fun vs H Q => ∃ (a : Addr) (ns : List Int), vs = [V.ref a] ∧ SqT K H a (ns.map V.int) ∧
  ∀ (ns' : List Int) (p : Addr), ns'.Perm ns → ns'.Pairwise (· ≤ ·) → H p = none → Q (.ref p) (upd H p (.lst (ns'.map V.int)))
section
variable {X : Cx}
theorem cr_sortedTu : CallR X (.builtin "sorted") (rSortedTu X.K) := by
  intro pins s σ H vs us Q I r h
  obtain ⟨a, ns, rfl, hs, q⟩ := h
  obtain ⟨its, rv, hl, hz⟩ := I.tuple hs
  rw [Vals.ref1 r]
  have hi := rv.ints
  have hzi : its.length ≤ sizeLine := by rw [← rv.length]; exact hz
  refine Calls.call_function_entry kind_sorted plain_sorted entry_sorted (args_sorted1 _) ?_
  unfold Builtin.«sorted»
  refine wpAny_bind (m := checkCount "sorted" 1 1 _) (wpAny_pure ?_)
  refine wpAny_bind (gather_tup hl ?_ hzi)
  refine wpAny_bind (wpAny_newList ?_ hzi)
  have hsz : ((s.heap.push (seqObj "list" #[] 0)).update s.heap.objs.size (Obj.mapSeq (· ++ its.toArray))).objs.size = s.heap.objs.size + 1 := by
    rw [Heap.size_update, size_push']
  have hoL : (((s.heap.push (seqObj "list" #[] 0)).update s.heap.objs.size (Obj.mapSeq (· ++ its.toArray))).push (seqObj "list" its.toArray 0)).get? (s.heap.objs.size + 1) = some (seqObj "list" its.toArray 0) := by
    rw [← hsz]
    exact Heap.get?_push_size _ rfl
  show wpAny _ _ _ _ _ { s with heap := ((s.heap.push (seqObj "list" #[] 0)).update s.heap.objs.size (Obj.mapSeq (· ++ its.toArray))).push (seqObj "list" its.toArray 0) }
  rw [hsz]
  refine wpAny_bind (wpAny_holding (wpAny_call_entry slot_list_sort ⟨_, hoL, rfl⟩ entry_list_sort (SrtO.list_sort_ord SrtO.swo_int hoL hzi (fun h2 => SrtO.ints_sortable hi h2) fun out h1 h2 => ⟨_, rfl, ?_⟩) (args_list_sort _)))
  refine wpAny_pure ⟨_, rfl, ?_⟩
  obtain ⟨k1, k2, k3⟩ := SrtO.ints_out hi h1 h2
  obtain ⟨ep, he'⟩ := PyProof.Rows.sortedAll_at s.heap its out.toArray
  have hlen : ((out.map SrtO.iv).map V.int).length ≤ sizeLine := by
    rw [List.length_map, k2.length_eq]
    rw [List.length_map] at hz
    exact hz
  exact ⟨.ref _, upd H (s.heap.objs.size + 1) (.lst ((out.map SrtO.iv).map V.int)), I.laid (t' := s.toks) (fun _ _ => PyProof.Rows.sortedAll_old) (Nat.le_succ _) ⟨hlen, out, ep, vals_of_ints k1, he'⟩, rfl, q _ _ k2 k3 (I.hok.fresh (Nat.le_succ _))⟩
end
end Tw

set_option Elab.async false
set_option linter.all false
set_option maxRecDepth 100000
set_option maxHeartbeats 1000000
/-! != of two tuples of two things, equal ones in turn -/
namespace Cq
open PySem PySem.SeqAt
open AutoSeq1 (wpAny_loadPart')
open MeetsSeq MeetsSeq2 MeetsSeq3 SeqRoads2
theorem pairs_ne {prog : Program} {w : World} {A : Around} {R : Result → Shared → Prop} {p q : Addr} {a b c e : Value} {k k2 : Nat} {u u2 : Option Addr} {z z2 : Array (Option Value)} {s : Shared}
    (hp : s.heap.get? p = some { cls := .type "tuple", dict := u, data := .seq #[a, b] k, slots := z }) (hq : s.heap.get? q = some { cls := .type "tuple", dict := u2, data := .seq #[c, e] k2, slots := z2 })
    (h : wpAny (model prog w) A.in1 (eqBool a c) (fun r s1 => r = true ∧ wpAny (model prog w) A.in1 (eqBool b e) (fun r s2 => r = true ∧ R (.ok (.ret (.bool false))) s2) (fun x s2 => R (.error x) s2) s1) (fun x s1 => R (.error x) s1) s) :
    wpAny (model prog w) A.in1 (Builtin.«tuple.__ne__» ⟨[.ref p, .ref q], []⟩) (GQ.FinOf prog w A R) (fun x s1 => R (.error x) s1) s := by
  have sub2 := AutoSeq1.sub_tuple_tuple
  obtain ⟨hh, gg, dd, tk, os⟩ := s
  wp_walk using wpAny_loadPart' hp, wpAny_loadPart' hq, wpAny_forIn_list _ (fun rest t s1 => t.1 = none ∧ ((rest = [(a, c), (b, e)] ∧ wpAny (model prog w) A.in1 (eqBool a c) (fun r s1 => r = true ∧ wpAny (model prog w) A.in1 (eqBool b e) (fun r s2 => r = true ∧ R (.ok (.ret (.bool false))) s2) (fun x s2 => R (.error x) s2) s1) (fun x s1 => R (.error x) s1) s1) ∨
    (rest = [(b, e)] ∧ wpAny (model prog w) A.in1 (eqBool b e) (fun r s2 => r = true ∧ R (.ok (.ret (.bool false))) s2) (fun x s2 => R (.error x) s2) s1) ∨ (rest = [] ∧ R (.ok (.ret (.bool false))) s1))) _
  case turn =>
    rintro ⟨y, x⟩ rest t s1 ⟨ht, ⟨e1, h1⟩ | ⟨e1, h1⟩ | ⟨e1, _⟩⟩
    · injection e1 with e1 e2
      injection e1 with e3 e4
      subst e3 e4 e2
      refine wpAny_bind (wpAny_mono h1 (fun r s2 g => ?_) fun _ _ g => g)
      obtain ⟨rfl, g⟩ := g
      wp_walk
      exact ⟨rfl, .inr (.inl ⟨rfl, g⟩)⟩
    · injection e1 with e1 e2
      injection e1 with e3 e4
      subst e3 e4 e2
      refine wpAny_bind (wpAny_mono h1 (fun r s2 g => ?_) fun _ _ g => g)
      obtain ⟨rfl, g⟩ := g
      wp_walk
      exact ⟨rfl, .inr (.inr ⟨rfl, g⟩)⟩
    · cases e1
  case fin =>
    rintro ⟨t1, t2⟩ s1 ⟨ht, ⟨e1, _⟩ | ⟨e1, _⟩ | ⟨_, h1⟩⟩
    · cases e1
    · cases e1
    · simp only at ht
      subst ht
      wp_walk
      simpa [Builtin.Tuple.tupleCompareSizes] using h1
  case h => exact ⟨rfl, .inl ⟨rfl, h⟩⟩
end Cq
namespace L2
open PySem PySem.Spec PyProof.Rows
theorem vals_two {a b : V} {l : List Value} (r : Vals [a, b] l) : ∃ x y, l = [x, y] ∧ RelV a x ∧ RelV b y := by
  cases r with
  | cons ra r =>
    cases r with
    | cons rb r =>
      cases r
      exact ⟨_, _, rfl, ra, rb⟩
def DPair (K : PySem.W.Frag) (D1 D2 : Eqv) : Eqv := fun x y H => ∃ (p q : Addr) (a b c e : V), x = .ref p ∧ y = .ref q ∧ SqT K H p [a, b] ∧ SqT K H q [c, e] ∧ D1 a c H ∧ D2 b e H
def rNeP (D : Eqv) : R2 := fun x y H Q => D x y H ∧ ∀ H', Ext H H' → Q (.bl false) H'
theorem op_neP {X : Cx} {n : Nat} {D1 D2 : Eqv} (g1 : EqG X n D1) (g2 : EqG X n D2) (m2 : Mon D2) (hr : Room (n + 1) X.A) : OpR X (compareOp .NotEq) (rNeP (DPair X.K D1 D2)) := by
  intro pins s σ H x y v u Q I rx ry ⟨⟨p, q, a, b, c, e, ex, ey, hp, hq, d1, d2⟩, k⟩
  subst ex ey
  cases rx
  cases ry
  have sb : Sub X (n + 1) X.A := ⟨hr, rfl⟩
  obtain ⟨its, r, e1, _⟩ := I.tuple hp
  obtain ⟨its2, r2, e2, _⟩ := I.tuple hq
  obtain ⟨va, vb, ei, ra, rb⟩ := vals_two r
  obtain ⟨vc, ve, ei2, rc, re⟩ := vals_two r2
  subst ei ei2
  obtain ⟨⟨cl, u1, da, z1⟩, o1, c1, n1, w1⟩ := id e1
  obtain ⟨⟨cl2, u2, da2, z2⟩, o2, c2, n2, w2⟩ := id e2
  dsimp only at c1 w1 c2 w2
  subst c1 w1 c2 w2
  show wpAny (model X.prog X.w) X.A (richCompare .NotEq (.ref p) (.ref q)) (EP X pins σ Q) X.xe s
  refine wpAny_richCompare_same_room (op := .NotEq) ⟨_, o1, rfl⟩ ⟨_, o2, rfl⟩ F.slot_tuple_ne (GQ.call_here F.slot_tuple_ne ⟨_, o1, rfl⟩ F.entry_tuple_ne (F.args_tuple_ne_2 _ _) ?_) hr.units0
  refine Cq.pairs_ne (R := wants (fun v s' => v ≠ .notImplemented ∧ EP X pins σ Q v s') X.xe) o1 o2 ?_
  refine wpAny_mono (g1 X.A.in1 pins s σ H _ _ va vc sb.in1 I ra rc d1) (fun t s1 ⟨ht, H1, I1, x1⟩ => ⟨ht, ?_⟩) fun _ _ g => g
  refine wpAny_mono (g2 X.A.in1 pins s1 σ H1 _ _ vb ve sb.in1 I1 rb re (m2 _ _ _ _ x1 d2)) (fun t s2 ⟨ht, H2, I2, x2⟩ => ⟨ht, ?_⟩) fun _ _ g => g
  exact ⟨(fun g => nomatch g), .bl false, H2, I2, rfl, k H2 (x1.trans x2)⟩
end L2


set_option Elab.async false
set_option linter.all false
set_option maxRecDepth 100000
set_option maxHeartbeats 4000000
/-! set(xs), xs a list of ints, as a value -/
namespace L2
open PySem PySem.Spec PyProof.Rows
section
variable {P : Program} {w : World} {A : Around} {E : Value → Shared → Prop}
/-- the set that is there at first -/
abbrev eS (w : World) : Obj := { cls := .type "set", dict := none, data := .set #[] 0 (.fresh 0 0 (!w.params.followText "set-order")) }
theorem init_over {z : Shared} {D l : Addr} {items : Array Value} {ns : List Int} {R : Result → Shared → Prop} (hh : A.handled = none) (hD : z.heap.get? D = some (eS w)) (hl : z.heap.IsList l items) (hit : IntsAre items.toList ns) (hb : ns.length + 1 < scanBound) (hne : l ≠ D)
    (q : ∀ (h' : Heap) (tk c : Nat), SetR w h' D (fun j => decide (j ∈ ns)) c → c ≤ ns.length → (∀ b o, b ≠ D → z.heap.get? b = some o → h'.get? b = some o) → R (.ok (.ret .none)) { z with heap := h', toks := tk }) :
    codeAny (model P w) A (.call (.builtin "set.__init__") ⟨[.ref D, .ref l], []⟩) R z := by
  have hn : items.size = ns.length := by
    have e := IntsAre.length hit
    rw [Array.length_toList] at e
    exact e
  have hT : Shared.TypeIs z (.ref D) "set" := ⟨_, hD, rfl⟩
  have lD : D < z.heap.objs.size := Heap.lt_size hD
  obtain ⟨⟨oc, od, oa, os⟩, hol, hcl, nl, hdl⟩ := id hl
  have ll : l < z.heap.objs.size := Heap.lt_size hol
  dsimp only at hcl hdl
  subst hcl hdl
  have no1 := F.sub_list_set
  have no2 := F.sub_list_frozenset
  have no3 : (Value.type "list" == Value.type "dict") = false := by decide
  refine codeAny_call_builtin F.called_set.init.plain F.entry_set_init (check_set_init_1 hT ?_)
  unfold Builtin.«set.__init__» noKeywords Builtin.Frozenset.updateFrom
  generalize hPI : pyIter = PI
  wp_walk
  subst hPI
  refine wpAny_pyIter_list hl ?_
  refine wpAny_bind (wpAny_runValue ?_)
  have free3 : A.in1.in1.handled = none := by simp [hh]
  have apart : l ≠ z.heap.objs.size := Nat.ne_of_lt ll
  have offS : D ∉ [z.heap.objs.size, l] := fun m => by
    rcases List.mem_cons.mp m with y | y
    · exact absurd y (Nat.ne_of_lt lD)
    · exact hne (List.mem_singleton.mp y).symm
  have each : ∀ (i : Nat) (v : Value), items[i]? = some v → ∃ k t, ns[i]? = some k ∧ v = .int k t := fun i v e => by
    have hi : i < ns.length := hn ▸ (Array.getElem?_eq_some_iff.mp e).1
    obtain ⟨t, e2⟩ := IntsAre.int_at hit i v (by rw [Array.getElem?_toList]; exact e)
    exact ⟨ns[i], t, List.getElem?_eq_getElem hi, by rw [e2, List.getD_eq_getElem?_getD, List.getElem?_eq_getElem hi]; rfl⟩
  refine set_update_ints ((Walks.list free3 _ l apart items).toS) D offS ns hn hb each (items.size - 0) 0 _ (by omega) (Nat.zero_le _) ?_ ⟨0, Nat.le_refl 0, ?_⟩ ?_
  · exact ⟨⟨_, Heap.get?_push_size _ rfl, rfl, rfl⟩, hl.push _⟩
  · exact setR_new_at (Heap.get?_push_of_some _ hD)
  rintro ⟨h', gens', drawn', tk', os'⟩ c moved hc new
  obtain rfl : gens' = z.gens := moved.gens
  obtain rfl : drawn' = z.drawn := moved.drawn
  obtain rfl : os' = z.os := moved.os
  show wpAny _ _ _ _ _ _
  refine wpAny_pure ?_
  show wpAny _ _ (ret Value.none) _ _ _
  refine wpAny_pure (q h' tk' c new (by omega) fun b o hbD e => ?_)
  have lb : b < z.heap.objs.size := Heap.lt_size e
  refine moved.heap b o (fun m => ?_) (Heap.get?_push_of_some _ e)
  rcases List.mem_cons.mp m with y | y
  · exact hbD y
  · exact absurd (List.mem_singleton.mp y) (Nat.ne_of_lt lb)
theorem set_over {z : Shared} {l : Addr} {items : Array Value} {ns : List Int} {Q : Value → Shared → Prop} (hh : A.handled = none) (hl : z.heap.IsList l items) (hit : IntsAre items.toList ns) (hb : ns.length + 1 < scanBound)
    (q : ∀ (h' : Heap) (tk c : Nat), SetR w h' z.heap.objs.size (fun j => decide (j ∈ ns)) c → c ≤ ns.length → (∀ b o, z.heap.get? b = some o → h'.get? b = some o) → Q (.ref z.heap.objs.size) { z with heap := h', toks := tk }) :
    wpAny (model P w) A (call (.type "set") [.ref l]) Q E z := by
  obtain ⟨c0, t0, mro0⟩ := F.called_set.mro
  have m1 := F.called_set.made
  have m2 := F.called_set.sub
  have m3 := F.called_set.notType
  have m4 := F.called_set.canCreate
  have m5 := F.typeCall_set_1 (.ref l)
  have ll : l < z.heap.objs.size := by
    obtain ⟨o, ho, _⟩ := id hl
    exact Heap.lt_size ho
  refine wpAny_call (codeAny_of_tree ?_)
  show wpAny _ _ (callAny (.type "set") _) _ _ _
  refine wpAny_pure ⟨Code.quiet_builtin _ (by decide +kernel), codeAny_builtin F.entry_type_call ?_⟩
  rw [Around.under_plain (weight_type_call_type "set" [.ref l] []) rfl]
  repeat any_goals first | assumption | wp_step
  have new1 : (z.heap.push (eS w)).get? z.heap.objs.size = some (eS w) := Heap.get?_push_size _ rfl
  refine codeAny_mono (code_set_led1 (.ref l) (E := E) (Q₁ := fun v y => v = .ref z.heap.objs.size ∧ y = { z with heap := z.heap.push (eS w) }) ⟨rfl, rfl⟩) fun r y hr => ?_
  cases r with
  | error e => exact hr
  | ok fl =>
    cases fl with
    | ret v =>
      obtain ⟨rfl, rfl⟩ := hr
      have hT : Shared.TypeIs { z with heap := z.heap.push (eS w) } (.ref z.heap.objs.size) "set" := ⟨_, new1, rfl⟩
      have i1 := F.called_set.init.lookup
      have i2 := F.called_set.init.bind (.ref z.heap.objs.size)
      repeat any_goals first | assumption | wp_step
      refine init_over (A := A.in1) (z := { z with heap := z.heap.push (eS w) }) (D := z.heap.objs.size) (by simp [hh]) new1 (hl.push _) hit hb (Nat.ne_of_lt ll) fun h' tk c S hc k => ?_
      show wpAny _ _ (pure (some Value.none)) _ _ _
      repeat any_goals first | assumption | wp_step
      exact q h' tk c S hc fun b o e => k b o (Nat.ne_of_lt (Heap.lt_size e)) (Heap.get?_push_of_some _ e)
    | _ => exact hr.elim
end
section
variable {X : Cx}
/-- set(xs) -/
def rSetLI (K : PySem.W.Frag) (w : World) : List V → Hp → VK → Prop := fun xs H Q => ∃ (l : Addr) (ns : List Int), xs = [V.ref l] ∧ SqL K H l (ns.map V.int) ∧ ns.length ≤ 1000 ∧ ∀ p n, n ≤ ns.length → H p = none → Q (.ref p) (upd H p (SetO w p (fun j => decide (j ∈ ns)) n))
theorem cr_setLI (hc : X.calm = true) : CallR X (.type "set") (rSetLI X.K X.w) := by
  intro pins s σ H xs us Q I r h
  obtain ⟨l, ns, rfl, hl, h1, q⟩ := h
  obtain ⟨its, rv, pl, _⟩ := I.list hl
  rw [Vals.ref1 r]
  refine set_over (I.ok.hd hc) pl.isList (ns := ns) (by simpa using rv.ints) (by unfold scanBound; omega) fun h' tk c R hc k => ?_
  exact ⟨.ref _, upd H s.heap.objs.size (SetO X.w s.heap.objs.size (fun j => decide (j ∈ ns)) c), I.laid (t' := tk) k (Nat.le_refl _) (setO_new R), rfl, q _ c hc (I.hok.fresh (Nat.le_refl _))⟩
end
end L2

set_option Elab.async false
set_option linter.all false
set_option maxRecDepth 100000
set_option maxHeartbeats 4000000
/-! sorted(xs), xs a list of tuples of ints, as long as a list may be -/
namespace L2
open PySem PySem.Spec PyProof.Rows PySem.W
abbrev tupE (ns : List Int) : PyData := .tuple (ns.map .int)
theorem tupE_le : dataLe false tupE = fun p q => decide (p ≤ q) := by
  funext p q
  show (!dataLt (.tuple (q.map .int)) (.tuple (p.map .int))) = _
  rw [dataLt_tuple]
  show (!rowLt (q.map .int) (p.map .int)) = _
  rw [dataLt_ints]
  by_cases h : q < p
  · have h' : ¬ p ≤ q := fun r => List.not_lt.mpr r h
    simp [h, h']
  · have h' : p ≤ q := List.not_lt.mp h
    simp [h, h']
section
variable {X : Cx} {pins : List (Addr × Obj)} {σ : St} {H : Hp} {s : Shared}
abbrev TupV (K : PySem.W.Frag) (H : Hp) (u : Value) (ns : List Int) : Prop := ∃ t, u = .ref t ∧ SqT K H t (ns.map V.int)
theorem tupV_of : ∀ {xs : List V} {bs : List (List Int)} {us : List Value}, Paired (TupI X.K H) xs bs → Vals xs us → EachIs (TupV X.K H) us bs
  | _, _, _, .nil, .nil => .nil
  | _, _, _, .cons ⟨t, e, h⟩ p, .cons r v => by
    subst e
    cases r
    exact .cons ⟨t, rfl, h⟩ (tupV_of p v)
theorem tupV_to : ∀ {bs : List (List Int)} {us : List Value}, EachIs (TupV X.K H) us bs → Paired (TupI X.K H) (us.map bkV) bs ∧ ∀ u ∈ us, ∃ a, u = Value.ref a
  | _, _, .nil => ⟨.nil, fun u hu => absurd hu (by simp)⟩
  | _, _, .cons ⟨t, e, h⟩ p => by
    subst e
    obtain ⟨h1, h2⟩ := tupV_to p
    refine ⟨.cons ⟨t, rfl, h⟩ h1, fun u hu => ?_⟩
    rcases List.mem_cons.mp hu with e | hu
    · exact ⟨t, e⟩
    · exact h2 u hu
theorem tupV_reads (I : Inv X pins σ H s) {u : Value} {ns : List Int} (h : TupV X.K H u ns) : ∃ as, Reads s.heap u (tupE ns) as := by
  obtain ⟨t, rfl, ht⟩ := h
  obtain ⟨its, rv, hT, _⟩ := I.tuple ht
  exact ⟨_, reads_tuple_ints hT (by simpa using rv.ints)⟩
/-- sorted(xs): the items ascending as tuples are -/
def rSortTA (K : PySem.W.Frag) : List V → Hp → VK → Prop := fun vs H Q => ∃ (a : Addr) (xs : List V) (bs : List (List Int)), vs = [V.ref a] ∧ SqL K H a xs ∧ Paired (TupI K H) xs bs ∧ (∀ b ∈ bs, b ≠ []) ∧
  ∀ (ys : List V) (p : Addr), Paired (TupI K H) ys (bs.mergeSort fun p q => decide (p ≤ q)) → H p = none → Q (.ref p) (upd H p (.lst ys))
theorem cr_sortTA (hu : X.A.units + 65 < cLine) : CallR X (.builtin "sorted") (rSortTA X.K) := by
  intro pins s σ H vs us Q I r h
  obtain ⟨a, xs, bs, rfl, hs, hp, hne, q⟩ := h
  obtain ⟨its, rv, hl, hz⟩ := I.list hs
  rw [Vals.ref1 r]
  have e0 : EachIs (TupV X.K H) its bs := tupV_of hp rv
  have hlen : bs.length = xs.length := (Paired.length hp).symm
  refine sorted_data (A := X.A) (R := TupV X.K H) (enc := tupE) hl.isList e0 (e0.mono fun u ns h => tupV_reads I h) (AllAlike.of fun b b' => by simp [alike, alike_ints]) (.inl fun d hd => ?_) (by rw [hlen]; exact hz) (fun b _ => ?_) fun out ho eo => ?_
  · obtain ⟨b, hb, rfl⟩ := List.mem_map.mp hd
    match b, hne b hb with
    | x :: r, _ => exact ⟨_, _, rfl⟩
  · have : (tupE b).depth ≤ 1 := by simp [PyData.depth, depth_ints]
    omega
  · rw [tupE_le] at eo
    obtain ⟨e1, e2⟩ := tupV_to eo
    obtain ⟨ep, he'⟩ := PyProof.Rows.sortedAll_at s.heap its out.toArray
    have hz2 : (out.map bkV).length ≤ sizeLine := by
      rw [List.length_map, ho, hlen]
      exact hz
    exact ⟨.ref _, upd H (s.heap.objs.size + 1) (.lst (out.map bkV)), I.laid (t' := s.toks) (fun _ _ => PyProof.Rows.sortedAll_old) (Nat.le_succ _) ⟨hz2, out, ep, bkV_vals e2, he'⟩, rfl, q _ _ e1 (I.hok.fresh (Nat.le_succ _))⟩
end
end L2

set_option Elab.async false
set_option linter.all false
set_option maxRecDepth 100000
set_option maxHeartbeats 4000000
/-! math.factorial -/
namespace L2
open PySem PySem.Spec PyProof.Rows
section
variable {X : Cx}
abbrev facN (n : Nat) : Nat := PySem.Builtin.Math.factorialNat n
def rFac : List V → Hp → VK → Prop := fun vs H Q => ∃ n : Nat, vs = [.int n] ∧ n ≤ 20000 ∧ Q (.int (facN n : Nat)) H
theorem cr_fac : CallR X (.builtin "math.factorial") rFac := by
  intro pins s σ H vs us Q I r h
  obtain ⟨n, rfl, hn, q⟩ := h
  cases r with
  | cons r1 r2 =>
    cases r2
    obtain ⟨t, rfl⟩ := r1
    exact PySem.W.mc_factorial (by omega) (by omega) fun _ => ⟨.int _, H, I.tok _, ⟨_, rfl⟩, q⟩
end
end L2

set_option Elab.async false
set_option linter.all false
set_option maxRecDepth 100000
set_option maxHeartbeats 4000000
/-! sorted(xs), xs a list of one item at most, whatever it is -/
namespace L2
open PySem PySem.Spec PyProof.Rows PySem.W
section
variable {X : Cx}
def rSort1 (K : PySem.W.Frag) : List V → Hp → VK → Prop := fun vs H Q => ∃ (a : Addr) (xs : List V), vs = [V.ref a] ∧ SqL K H a xs ∧ xs.length ≤ 1 ∧
  ∀ p : Addr, H p = none → Q (.ref p) (upd H p (.lst xs))
theorem cr_sort1 : CallR X (.builtin "sorted") (rSort1 X.K) := by
  intro pins s σ H vs us Q I r h
  obtain ⟨a, xs, rfl, hs, h1, q⟩ := h
  obtain ⟨its, rv, hl, hz⟩ := I.list hs
  rw [Vals.ref1 r]
  have hlen : xs.length = its.length := rv.length
  refine Srt.sorted_any hl.isList (by omega) (fun h2 => by omega) fun out hp => ?_
  have e : out = its := by
    match its, hlen with
    | [], _ => exact List.Perm.eq_nil hp
    | [x], _ => exact List.perm_singleton.mp hp
    | _ :: _ :: _, hl => simp only [List.length_cons] at hl; omega
  subst e
  obtain ⟨ep, he'⟩ := PyProof.Rows.sortedAll_at s.heap out out.toArray
  exact ⟨.ref _, upd H (s.heap.objs.size + 1) (.lst xs), I.laid (t' := s.toks) (fun _ _ => PyProof.Rows.sortedAll_old) (Nat.le_succ _) ⟨hz, out, ep, rv, he'⟩, rfl, q _ (I.hok.fresh (Nat.le_succ _))⟩
end
end L2

set_option Elab.async false
set_option linter.all false
set_option maxRecDepth 100000
set_option maxHeartbeats 4000000
/-! xs.extend(t), t a tuple -/
namespace PySem
open PySem PySem.W PySem.AutoSeq1
theorem ext_tup {l b : Addr} {items items2 : Array Value} {n n2 : Nat} {dc : Option Addr} {sl : Array (Option Value)} (hs0 : ¬(!items.isEmpty && Builtin.List.listTooLong (items.size + items2.size)) = true) (hs1 : items.size ≤ sizeLine) (hs2 : items.size + items2.size ≤ sizeLine + 1) :
    Meets (Builtin.«list.extend» ⟨[.ref l, .ref b], []⟩) (fun _ R s => s.heap.get? l = some { cls := .type "list", dict := none, data := .seq items n, slots := #[] } ∧ s.heap.get? b = some { cls := .type "tuple", dict := dc, data := .seq items2 n2, slots := sl } ∧
      R (.ok (.ret Value.none)) { s with heap := s.heap.update l (Obj.mapSeq fun x => x ++ items2), toks := s.toks }) :=
  .of_wp fun prog w A R s h => by
    obtain ⟨hp, g, d, tk, os⟩ := s
    obtain ⟨hl, hb, h⟩ := h
    have f1 := idx_int
    have f2 := sub_tuple_tuple
    have f3 := sub_list_list
    have f4 := sub_tuple_list
    have f5 := sub_list_tuple
    have hz' : (items ++ items2).size ≤ sizeLine + 1 := by rw [Array.size_append]; exact hs2
    wp_walk using (wpAny_updateSeq hl rfl (hz := hs1) (_hz' := hz')), wpAny_loadPart' hl, wpAny_loadPart' hb
    exact ⟨_, rfl, h⟩
end PySem
namespace L2
open PySem PySem.Spec PyProof.Rows PySem.W
section
variable {X : Cx}
def rExtT (K : PySem.W.Frag) : V → List V → Hp → VK → Prop := fun x vs H Q => ∃ (l b : Addr) (xs zs : List V), x = .ref l ∧ vs = [.ref b] ∧ H l = some (.lst xs) ∧ SqT K H b zs ∧ xs.length + zs.length ≤ sizeLine ∧
  Q .non (upd H l (.lst (xs ++ zs)))
theorem mt_extendT : MtM X "list.extend" (rExtT X.K) := by
  intro pins s σ H x vs v us Q I rx rv h
  obtain ⟨l, b, xs, zs, rfl, rfl, hH, hB, hz, q⟩ := h
  cases rx
  obtain ⟨u, rfl, ru⟩ := rv.one
  cases ru
  obtain ⟨z, its, n, r, hl, e⟩ := I.lstM hH
  obtain ⟨its2, r2, ⟨ob, eb, hc, n2, hd⟩, hl2⟩ := I.tuple hB
  obtain ⟨cls, dc, data, sl⟩ := ob
  dsimp only at hc hd
  subst hc hd
  have h1 := r.length
  have h2 := r2.length
  have hsz : its.toArray.size + its2.toArray.size ≤ sizeLine := by rw [List.size_toArray, List.size_toArray]; omega
  have hlong : ¬ (!its.toArray.isEmpty && Builtin.List.listTooLong (its.toArray.size + its2.toArray.size)) = true := by
    rw [notLongL hsz, Bool.and_false]
    exact Bool.false_ne_true
  refine call_meets F.slot_list_extend ⟨_, e, rfl⟩ F.entry_list_extend (F.args_list_extend_2 _ _) (PySem.ext_tup hlong (by rw [List.size_toArray]; omega) (by omega)) ⟨e, eb, ?_⟩
  refine ⟨.non, _, I.lset (its' := its ++ its2) hH e (by simp) (r.append r2) ?_, rfl, q⟩
  rw [List.length_append]
  omega
end
end L2

set_option Elab.async false
set_option linter.all false
set_option maxRecDepth 100000
set_option maxHeartbeats 4000000
/-! set(xs), xs a tuple of ints, as a value -/
namespace L2
open PySem PySem.Spec PyProof.Rows
section
variable {P : Program} {w : World} {A : Around} {E : Value → Shared → Prop}
theorem sub_tup_set : isSubtype (.type "tuple") (.type "set") = pure false := by rw [isSubtype_type]; kernel_rfl
theorem sub_tup_frz : isSubtype (.type "tuple") (.type "frozenset") = pure false := by rw [isSubtype_type]; kernel_rfl
theorem init_overT {z : Shared} {D l : Addr} {items : Array Value} {ns : List Int} {R : Result → Shared → Prop} (hh : A.handled = none) (hD : z.heap.get? D = some (eS w)) (hl : z.heap.IsTuple l items) (hit : IntsAre items.toList ns) (hb : ns.length + 1 < scanBound) (hne : l ≠ D)
    (q : ∀ (h' : Heap) (tk c : Nat), SetR w h' D (fun j => decide (j ∈ ns)) c → c ≤ ns.length → (∀ b o, b ≠ D → z.heap.get? b = some o → h'.get? b = some o) → R (.ok (.ret .none)) { z with heap := h', toks := tk }) :
    codeAny (model P w) A (.call (.builtin "set.__init__") ⟨[.ref D, .ref l], []⟩) R z := by
  have hn : items.size = ns.length := by
    have e := IntsAre.length hit
    rw [Array.length_toList] at e
    exact e
  have hT : Shared.TypeIs z (.ref D) "set" := ⟨_, hD, rfl⟩
  have lD : D < z.heap.objs.size := Heap.lt_size hD
  obtain ⟨⟨oc, od, oa, os⟩, hol, hcl, nl, hdl⟩ := id hl
  have ll : l < z.heap.objs.size := Heap.lt_size hol
  dsimp only at hcl hdl
  subst hcl hdl
  have no1 := sub_tup_set
  have no2 := sub_tup_frz
  have no3 : (Value.type "tuple" == Value.type "dict") = false := by decide
  refine codeAny_call_builtin F.called_set.init.plain F.entry_set_init (check_set_init_1 hT ?_)
  unfold Builtin.«set.__init__» noKeywords Builtin.Frozenset.updateFrom
  generalize hPI : pyIter = PI
  wp_walk
  subst hPI
  refine wpAny_pyIter_tuple hl ?_
  refine wpAny_bind (wpAny_runValue ?_)
  have free3 : A.in1.in1.handled = none := by simp [hh]
  have apart : l ≠ z.heap.objs.size := Nat.ne_of_lt ll
  have offS : D ∉ [z.heap.objs.size, l] := fun m => by
    rcases List.mem_cons.mp m with y | y
    · exact absurd y (Nat.ne_of_lt lD)
    · exact hne (List.mem_singleton.mp y).symm
  have each : ∀ (i : Nat) (v : Value), items[i]? = some v → ∃ k t, ns[i]? = some k ∧ v = .int k t := fun i v e => by
    have hi : i < ns.length := hn ▸ (Array.getElem?_eq_some_iff.mp e).1
    obtain ⟨t, e2⟩ := IntsAre.int_at hit i v (by rw [Array.getElem?_toList]; exact e)
    exact ⟨ns[i], t, List.getElem?_eq_getElem hi, by rw [e2, List.getD_eq_getElem?_getD, List.getElem?_eq_getElem hi]; rfl⟩
  refine set_update_ints ((Walks.tuple free3 _ l apart items).toS) D offS ns hn hb each (items.size - 0) 0 _ (by omega) (Nat.zero_le _) ?_ ⟨0, Nat.le_refl 0, ?_⟩ ?_
  · exact ⟨⟨_, Heap.get?_push_size _ rfl, rfl, rfl⟩, hl.push _⟩
  · exact setR_new_at (Heap.get?_push_of_some _ hD)
  rintro ⟨h', gens', drawn', tk', os'⟩ c moved hc new
  obtain rfl : gens' = z.gens := moved.gens
  obtain rfl : drawn' = z.drawn := moved.drawn
  obtain rfl : os' = z.os := moved.os
  show wpAny _ _ _ _ _ _
  refine wpAny_pure ?_
  show wpAny _ _ (ret Value.none) _ _ _
  refine wpAny_pure (q h' tk' c new (by omega) fun b o hbD e => ?_)
  have lb : b < z.heap.objs.size := Heap.lt_size e
  refine moved.heap b o (fun m => ?_) (Heap.get?_push_of_some _ e)
  rcases List.mem_cons.mp m with y | y
  · exact hbD y
  · exact absurd (List.mem_singleton.mp y) (Nat.ne_of_lt lb)
theorem set_overT {z : Shared} {l : Addr} {items : Array Value} {ns : List Int} {Q : Value → Shared → Prop} (hh : A.handled = none) (hl : z.heap.IsTuple l items) (hit : IntsAre items.toList ns) (hb : ns.length + 1 < scanBound)
    (q : ∀ (h' : Heap) (tk c : Nat), SetR w h' z.heap.objs.size (fun j => decide (j ∈ ns)) c → c ≤ ns.length → (∀ b o, z.heap.get? b = some o → h'.get? b = some o) → Q (.ref z.heap.objs.size) { z with heap := h', toks := tk }) :
    wpAny (model P w) A (call (.type "set") [.ref l]) Q E z := by
  obtain ⟨c0, t0, mro0⟩ := F.called_set.mro
  have m1 := F.called_set.made
  have m2 := F.called_set.sub
  have m3 := F.called_set.notType
  have m4 := F.called_set.canCreate
  have m5 := F.typeCall_set_1 (.ref l)
  have ll : l < z.heap.objs.size := by
    obtain ⟨o, ho, _⟩ := id hl
    exact Heap.lt_size ho
  refine wpAny_call (codeAny_of_tree ?_)
  show wpAny _ _ (callAny (.type "set") _) _ _ _
  refine wpAny_pure ⟨Code.quiet_builtin _ (by decide +kernel), codeAny_builtin F.entry_type_call ?_⟩
  rw [Around.under_plain (weight_type_call_type "set" [.ref l] []) rfl]
  repeat any_goals first | assumption | wp_step
  have new1 : (z.heap.push (eS w)).get? z.heap.objs.size = some (eS w) := Heap.get?_push_size _ rfl
  refine codeAny_mono (code_set_led1 (.ref l) (E := E) (Q₁ := fun v y => v = .ref z.heap.objs.size ∧ y = { z with heap := z.heap.push (eS w) }) ⟨rfl, rfl⟩) fun r y hr => ?_
  cases r with
  | error e => exact hr
  | ok fl =>
    cases fl with
    | ret v =>
      obtain ⟨rfl, rfl⟩ := hr
      have hT : Shared.TypeIs { z with heap := z.heap.push (eS w) } (.ref z.heap.objs.size) "set" := ⟨_, new1, rfl⟩
      have i1 := F.called_set.init.lookup
      have i2 := F.called_set.init.bind (.ref z.heap.objs.size)
      repeat any_goals first | assumption | wp_step
      refine init_overT (A := A.in1) (z := { z with heap := z.heap.push (eS w) }) (D := z.heap.objs.size) (by simp [hh]) new1 (hl.push _) hit hb (Nat.ne_of_lt ll) fun h' tk c S hc k => ?_
      show wpAny _ _ (pure (some Value.none)) _ _ _
      repeat any_goals first | assumption | wp_step
      exact q h' tk c S hc fun b o e => k b o (Nat.ne_of_lt (Heap.lt_size e)) (Heap.get?_push_of_some _ e)
    | _ => exact hr.elim
end
section
variable {X : Cx}
/-- set(xs) -/
def rSetTI (K : PySem.W.Frag) (w : World) : List V → Hp → VK → Prop := fun xs H Q => ∃ (l : Addr) (ns : List Int), xs = [V.ref l] ∧ SqT K H l (ns.map V.int) ∧ ns.length ≤ 1000 ∧ ∀ p n, n ≤ ns.length → H p = none → Q (.ref p) (upd H p (SetO w p (fun j => decide (j ∈ ns)) n))
theorem cr_setTI (hc : X.calm = true) : CallR X (.type "set") (rSetTI X.K X.w) := by
  intro pins s σ H xs us Q I r h
  obtain ⟨l, ns, rfl, hl, h1, q⟩ := h
  obtain ⟨its, rv, pl, _⟩ := I.tuple hl
  rw [Vals.ref1 r]
  refine set_overT (I.ok.hd hc) pl (ns := ns) (by simpa using rv.ints) (by unfold scanBound; omega) fun h' tk c R hc k => ?_
  exact ⟨.ref _, upd H s.heap.objs.size (SetO X.w s.heap.objs.size (fun j => decide (j ∈ ns)) c), I.laid (t' := tk) k (Nat.le_refl _) (setO_new R), rfl, q _ c hc (I.hok.fresh (Nat.le_refl _))⟩
end
end L2

set_option Elab.async false
set_option linter.all false
set_option maxRecDepth 100000
set_option maxHeartbeats 4000000
/-! t > u, both tuples of ints -/
namespace L2
open PySem PySem.Spec PyProof.Rows
abbrev gtB (ns ms : List Int) : Bool := Ob.lexAt (fun j => decide (ns.getD j 0 = ms.getD j 0)) (fun j => decide (ms.getD j 0 < ns.getD j 0)) (decide (ms.length < ns.length)) 0 (min ns.length ms.length)
def rGtT (K : PySem.W.Frag) : R2 := fun x y H Q => ∃ (t1 t2 : Addr) (ns ms : List Int), (x = .ref t1 ∧ y = .ref t2) ∧ (SqT K H t1 (ns.map V.int) ∧ SqT K H t2 (ms.map V.int)) ∧ Q (.bl (gtB ns ms)) H
theorem op_gtT {X : Cx} (few : X.A.units < cLine) : OpR X (compareOp .Gt) (rGtT X.K) := by
  rintro pins s σ H x y v u Q I rx ry ⟨t1, t2, ns, ms, ⟨rfl, rfl⟩, ⟨h1, h2⟩, q⟩
  cases rx; cases ry
  obtain ⟨us, va, pa, _⟩ := I.tuple h1
  obtain ⟨ws, vb, pb, _⟩ := I.tuple h2
  have item : ∀ {zs : List Value} {ks : List Int}, IntsAre zs ks → ∀ j (h : j < zs.toArray.size), ∃ t, zs.toArray[j] = .int (ks.getD j 0) t := fun ii j h =>
    PyProof.Rows.IntsAre.int_at ii _ _ (by simp at h; simp [h])
  have size : ∀ {zs : List Value} {ks : List Int}, IntsAre zs ks → zs.toArray.size = ks.length := fun ii => by rw [List.size_toArray]; exact ii.length
  have beq : ∀ a b : Int, decide (a = b) = (a == b) := fun a b => by
    by_cases c : a = b
    · subst c; simp
    · rw [decide_eq_false c]; exact (beq_eq_false_iff_ne.mpr c).symm
  have main := Ob.RcOp.tuples_gt (A := X.A) (s := s) (e := fun j => decide (ns.getD j 0 = ms.getD j 0)) (r := fun j => decide (ms.getD j 0 < ns.getD j 0)) pa pb few
    (fun j i1 i2 => by
      obtain ⟨k1, g1⟩ := item va.ints j i1
      obtain ⟨k2, g2⟩ := item vb.ints j i2
      rw [g1, g2, beq]
      exact SeqAt.EqAt.int_int _ _ _ _)
    (fun j i1 i2 _ => by
      obtain ⟨k1, g1⟩ := item va.ints j i1
      obtain ⟨k2, g2⟩ := item vb.ints j i2
      rw [g1, g2]
      exact Ob.RcOp.gt_int _ _ _ _)
  rw [size va.ints, size vb.ints] at main
  exact main X.prog X.w X.xe (EP X pins σ Q) ⟨.bl _, H, I, rfl, q⟩
end L2

set_option Elab.async false
set_option linter.all false
set_option maxRecDepth 100000
set_option maxHeartbeats 4000000
/-! sorted(xs), xs a list of tuples of ints, the first of which has no item -/
namespace PySem.W
open PySem PySem.Calls PyProof.Rows PySem.SeqAt
section
variable {prog : Program} {w : World} {A : Around} {E : Value → Shared → Prop} {s : Shared}
theorem call_tuple_ltZ {Q : Value → Shared → Prop} {l b : Addr} {items items2 : Array Value} {e r : Nat → Bool} (hl : s.heap.IsTuple l items) (hb : s.heap.IsTuple b items2)
    (he : ∀ j (h1 : j < items.size) (h2 : j < items2.size), EqAt A.in1 s items[j] items2[j] (e j)) (hr : ∀ j (h1 : j < items.size) (h2 : j < items2.size), e j = false → RcLt A.in1 s items[j] items2[j] (r j))
    (h : Q (.bool (firstLt e r (decide (items.size < items2.size)) (List.range (min items.size items2.size)))) s) : wpAny (model prog w) A (call (.builtin "tuple.__lt__") [.ref l, .ref b]) Q E s := by
  obtain ⟨⟨cls, dd, data, sl⟩, ho, hc, n, hd⟩ := id hl
  obtain ⟨⟨cls2, dd2, data2, sl2⟩, ho2, hc2, n2, hd2⟩ := id hb
  simp only at hc hd hc2 hd2
  subst hc hd hc2 hd2
  exact call_meets F.slot_tuple_lt ⟨_, ho, rfl⟩ F.entry_tuple_lt (F.args_tuple_lt_2 _ _) (tuple_ltAt l b items items2 n n2 dd dd2 sl sl2 e r) ⟨ho, ho2, he, hr, h⟩
theorem oneLt_tupZ {xs ys : List PyData} {a b : Value} {as bs : List Addr} {Q : Bool → Shared → Prop} (ra : Reads s.heap a (.tuple xs) as) (rb : Reads s.heap b (.tuple ys) bs) (hal : alikeAll xs ys = true)
    (hu : A.units + min (PyData.tuple xs).depth (PyData.tuple ys).depth < cLine) (hq : Q (dataLt (.tuple xs) (.tuple ys)) s) : wpAny (model prog w) A (oneLt' true a b) Q E s := by
  cases ra with
  | @tuple l o vs n _ as₁ h1 h2 h3 h4 =>
    cases rb with
    | @tuple l' o' vs' n' _ bs₁ k1 k2 k3 k4 =>
      have n1 : vs.size = xs.length := by simpa using ReadsAll.length _ _ _ h4
      have n2 : vs'.size = ys.length := by simpa using ReadsAll.length _ _ _ k4
      rw [dataLt_tuple, ← firstLt_toks xs ys hal, ← n1, ← n2] at hq
      rw [oneLt'_eq]
      simp only [if_true]
      refine wpAny_bind (wpAny_cRoomFor (room_here hu) ?_)
      refine wpAny_bind (wpAny_callSpecialIfBound?_slot (T := "tuple") ⟨_, h1, h2⟩ F.slot_tuple_lt (call_tuple_ltZ (e := pairEq xs ys) (r := fun j => dataLt (xs.getD j .none) (ys.getD j .none)) ⟨_, h1, h2, _, h3⟩ ⟨_, k1, k2, _, k3⟩ (fun j j1 j2 => ?_) (fun j j1 j2 hj => ?_) ?_))
      · have := eqAt_alikeAll xs ys A.in1 s vs.toList vs'.toList _ _ h4 k4 hal (room_in hu) j (by simpa using j1) (by simpa using j2)
        simpa using this
      · have := rcLt_alikeAll xs ys A.in1 s vs.toList vs'.toList _ _ h4 k4 hal (room_in hu) j (by simpa using j1) (by simpa using j2) hj
        simpa using this
      · exact wpAny_truthy_bool hq
end
section
variable {M : Model} {A : Around} {E : Value → Shared → Prop} {s : Shared}
def TupAt (h : Heap) (v : Value) (xs : Array Value) : Prop := ∃ a o n, v = .ref a ∧ h.get? a = some o ∧ o.cls = .type "tuple" ∧ o.data = .seq xs n
theorem first_tupZ {v : Value} {xs : Array Value} {Q : Option Value → Shared → Prop} (t : TupAt s.heap v xs) (h : Q xs[0]? s) : wpAny M A (firstOfTuple' v) Q E s := by
  obtain ⟨a, o, n, rfl, ho, hc, hd⟩ := t
  rw [kas_first_eq]
  refine wpAny_bind (Looks.here (show Looks M s.heap (typeOf (.ref a)) o.cls from (Looks.ld ho).andThen .now) ?_)
  rw [hc, if_neg (by first | decide | simp)]
  exact wpAny_bind (listItems_at ho hd (wpAny_pure h))
theorem firsts_anyZ : ∀ (vs : List Value), (∀ v ∈ vs, ∃ xs, TupAt s.heap v xs) → ∃ rs : List (Option Value), ∀ {Q : List (Option Value) → Shared → Prop}, Q rs s → wpAny M A (vs.mapM firstOfTuple') Q E s
  | [], _ => ⟨[], fun h => by rw [List.mapM_nil]; exact wpAny_pure h⟩
  | v :: vs, t => by
    obtain ⟨xs, hx⟩ := t v (.head _)
    obtain ⟨rs, hr⟩ := firsts_anyZ vs fun v hv => t v (.tail _ hv)
    refine ⟨xs[0]? :: rs, fun {Q} h => ?_⟩
    rw [List.mapM_cons]
    exact wpAny_bind (first_tupZ hx (wpAny_bind (hr (Q := fun bs s' => wpAny M A (pure (xs[0]? :: bs)) Q E s') (wpAny_pure h))))
theorem kind_tupZ {v₁ : Value} {rest : List Value} {Q : SortKind → Shared → Prop} (h1 : TupAt s.heap v₁ #[]) (hT : ∀ v ∈ rest, ∃ xs, TupAt s.heap v xs) (h : Q oneType' s) : wpAny M A (keyKind' (v₁ :: rest).toArray) Q E s := by
  obtain ⟨rs, hr⟩ := firsts_anyZ (M := M) (A := A) (E := E) rest hT
  rw [keyKind'_eq, List.mapM_toArray, map_eq_pure_bind]
  refine wpAny_bind (wpAny_bind ?_)
  rw [List.mapM_cons]
  refine wpAny_bind (first_tupZ h1 (wpAny_bind (hr ?_)))
  refine wpAny_pure (wpAny_pure ?_)
  rw [if_neg (by simp), if_neg (by simp)]
  rw [oneTypeOnly'_eq, List.mapM_toArray, map_eq_pure_bind]
  have hty : ∀ v ∈ v₁ :: rest, ∀ (Q' : Value → Shared → Prop), Q' (.type "tuple") s → wpAny M A (typeOf v) Q' E s := fun v hv Q' hq => by
    have ht : ∃ xs, TupAt s.heap v xs := by
      rcases List.mem_cons.mp hv with rfl | hv
      · exact ⟨_, h1⟩
      · exact hT v hv
    obtain ⟨xs, a, o, n, rfl, ho, hc, hd⟩ := ht
    refine Looks.here (show Looks M s.heap (typeOf (.ref a)) o.cls from (Looks.ld ho).andThen .now) ?_
    rw [hc]
    exact hq
  refine wpAny_bind (wpAny_bind (wpAny_bind (kas_mapM (r := .type "tuple") _ hty (wpAny_pure ?_))))
  have hall : ((List.map (fun _ => Value.type "tuple") (v₁ :: rest)).toArray.all fun x => x == Value.type "tuple") = true := by
    simp only [List.all_toArray, List.all_map, List.all_eq_true]
    intro _ _
    rfl
  have h0 : (List.map (fun _ => Value.type "tuple") (v₁ :: rest)).toArray[0]? = some (Value.type "tuple") := by simp
  rw [h0]
  simp only [hall, if_true]
  exact wpAny_pure (wpAny_pure h)
end
section
variable {prog : Program} {w : World} {A : Around} {E : Value → Shared → Prop} {s : Shared}
theorem reads_tupZ {v : Value} {r : List PyData} {as : List Addr} (h : Reads s.heap v (.tuple r) as) : ∃ xs, TupAt s.heap v xs := by
  cases h with
  | @tuple l o vs n _ as₁ h1 h2 h3 h4 => exact ⟨_, l, o, n, rfl, h1, h2, h3⟩
theorem reads_tup0Z {v : Value} {as : List Addr} (h : Reads s.heap v (.tuple []) as) : TupAt s.heap v #[] := by
  cases h with
  | @tuple l o vs n _ as₁ h1 h2 h3 h4 =>
    have n1 : vs.size = 0 := by simpa using ReadsAll.length _ _ _ h4
    obtain rfl : vs = #[] := Array.eq_empty_of_size_eq_zero n1
    exact ⟨l, o, n, rfl, h1, h2, h3⟩
theorem SortsAt.tupZ {vs : List Value} {ds : List PyData} (e : EachIs (fun v d => ∃ as, Reads s.heap v d as) vs (.tuple [] :: ds)) (hal : AllAlike (.tuple [] :: ds)) (ht : ∀ d, d ∈ ds → ∃ r, d = .tuple r) (hu : ∀ d, d ∈ PyData.tuple [] :: ds → A.units + d.depth < cLine) :
    SortsAt prog w A s (dataKind s.heap (.tuple [] :: ds)) vs := by
  have ht2 : ∀ d, d ∈ PyData.tuple [] :: ds → ∃ r, d = .tuple r := fun d hd => by
    rcases List.mem_cons.mp hd with rfl | hd
    · exact ⟨_, rfl⟩
    · exact ht d hd
  refine ⟨fun v hv => ?_, oneType', ?_, fun h2 E Q hq => ?_⟩
  · obtain ⟨d, hd, as, r⟩ := e.left v hv
    exact ⟨_, dataKind_some hal hd r⟩
  · intro E x y a b Q ha hb hq
    obtain ⟨d, as, hd, ra, rfl⟩ := dataKind_inv ha
    obtain ⟨d', as', hd', rb, rfl⟩ := dataKind_inv hb
    have hdd := hal d hd d' hd'
    have hroom : A.units + min d.depth d'.depth < cLine := Nat.lt_of_le_of_lt (Nat.add_le_add_left (Nat.min_le_left _ _) _) (hu d hd)
    obtain ⟨r1, rfl⟩ := ht2 d hd
    obtain ⟨r2, rfl⟩ := ht2 d' hd'
    rw [keyLt'_oneType]
    exact oneLt_tupZ ra rb (by simpa [alike] using hdd) hroom hq
  · cases e with
    | @cons v₁ _ vs _ r1 r2 =>
      obtain ⟨as, r1⟩ := r1
      refine kind_tupZ (reads_tup0Z r1) (fun v hv => ?_) hq
      obtain ⟨d, hd, as, r⟩ := r2.left v hv
      obtain ⟨r', rfl⟩ := ht d hd
      exact reads_tupZ r
end
end PySem.W
namespace PySem.W
open PySem PySem.Calls PyProof.Rows PySem.SeqAt
section
variable {prog : Program} {w : World} {A : Around} {E : Value → Shared → Prop} {s : Shared} {β : Type} {R : Value → β → Prop} {enc : β → PyData} {b0 : β} {bs : List β} {vs : List Value}
theorem sorted_tupZ {l : Addr} {Q : Value → Shared → Prop} (h0 : enc b0 = .tuple []) (ht : ∀ b, b ∈ bs → ∃ r, enc b = .tuple r) (hl : s.heap.IsList l vs.toArray) (e : EachIs R vs (b0 :: bs)) (er : EachIs (fun v b => ∃ as, Reads s.heap v (enc b) as) vs (b0 :: bs)) (hal : AllAlike ((b0 :: bs).map enc)) (hL : (b0 :: bs).length ≤ sizeLine)
    (hu : ∀ b, b ∈ b0 :: bs → A.units + 2 + (enc b).depth < cLine) (h : ∀ out, out.length = (b0 :: bs).length → EachIs R out ((b0 :: bs).mergeSort (dataLe false enc)) → Q (.ref (s.heap.objs.size + 1)) { s with heap := sortedAll s.heap vs (List.toArray out) }) :
    wpAny (model prog w) A (call (.builtin "sorted") [.ref l]) Q E s := by
  have er' : EachIs (fun v b => ∃ as, Reads (sortingHeap (copyHeap s.heap vs) (s.heap.objs.size + 1) vs) v (enc b) as) vs (b0 :: bs) := er.mono fun _ _ ⟨as, r⟩ => ⟨as, PyProof.Rows.Reads.keeps (fun _ _ => sorting_copy_old) r⟩
  have em := each_map (R := fun v d => ∃ as, Reads (sortingHeap (copyHeap s.heap vs) (s.heap.objs.size + 1) vs) v d as) enc er'
  have bm := bound_map (A := A.in1.in1) (enc := enc) (bs := b0 :: bs) hu
  have hal2 := hal
  rw [List.map_cons, h0] at em bm hal2
  refine sorted_vals (κ := dataKind (sortingHeap (copyHeap s.heap vs) (s.heap.objs.size + 1) vs) ((b0 :: bs).map enc)) hl ?_ (by rw [e.length]; exact hL) (h _ (by rw [sortVals_length false rfl]; exact e.length) (sortVals_data false e er' hal))
  rw [List.map_cons, h0]
  refine SortsAt.tupZ (s := { s with heap := sortingHeap (copyHeap s.heap vs) (s.heap.objs.size + 1) vs }) em hal2 (fun d hd => ?_) bm
  obtain ⟨b, hb, rfl⟩ := List.mem_map.mp hd
  exact ht b hb
end
end PySem.W
namespace L2
open PySem PySem.Spec PyProof.Rows PySem.W
section
variable {X : Cx} {pins : List (Addr × Obj)} {σ : St} {H : Hp} {s : Shared}
/-- sorted(xs): the items ascending as tuples are -/
def rSortT0 (K : PySem.W.Frag) : List V → Hp → VK → Prop := fun vs H Q => ∃ (a : Addr) (xs : List V) (bs : List (List Int)), vs = [V.ref a] ∧ SqL K H a xs ∧ Paired (TupI K H) xs ([] :: bs) ∧
  ∀ (ys : List V) (p : Addr), Paired (TupI K H) ys (([] :: bs).mergeSort fun p q => decide (p ≤ q)) → H p = none → Q (.ref p) (upd H p (.lst ys))
theorem cr_sortT0 (hu : X.A.units + 65 < cLine) : CallR X (.builtin "sorted") (rSortT0 X.K) := by
  intro pins s σ H vs us Q I r h
  obtain ⟨a, xs, bs, rfl, hs, hp, q⟩ := h
  obtain ⟨its, rv, hl, hz⟩ := I.list hs
  rw [Vals.ref1 r]
  have e0 : EachIs (TupV X.K H) its ([] :: bs) := tupV_of hp rv
  have hlen : ([] :: bs).length = xs.length := (Paired.length hp).symm
  refine sorted_tupZ (A := X.A) (R := TupV X.K H) (enc := tupE) rfl (fun b _ => ⟨_, rfl⟩) hl.isList e0 (e0.mono fun u ns h => tupV_reads I h) (AllAlike.of fun b b' => by simp [alike, alike_ints]) (by rw [hlen]; exact hz) (fun b _ => ?_) fun out ho eo => ?_
  · have : (tupE b).depth ≤ 1 := by simp [PyData.depth, depth_ints]
    omega
  · rw [tupE_le] at eo
    obtain ⟨e1, e2⟩ := tupV_to eo
    obtain ⟨ep, he'⟩ := PyProof.Rows.sortedAll_at s.heap its out.toArray
    have hz2 : (out.map bkV).length ≤ sizeLine := by
      rw [List.length_map, ho, hlen]
      exact hz
    exact ⟨.ref _, upd H (s.heap.objs.size + 1) (.lst (out.map bkV)), I.laid (t' := s.toks) (fun _ _ => PyProof.Rows.sortedAll_old) (Nat.le_succ _) ⟨hz2, out, ep, bkV_vals e2, he'⟩, rfl, q _ _ e1 (I.hok.fresh (Nat.le_succ _))⟩
end
end L2

set_option Elab.async false
set_option linter.all false
set_option maxRecDepth 100000
set_option maxHeartbeats 4000000
/-! o.m(e, .., k = v, ..); an expression read in one of two ways -/
namespace L2
open PySem PySem.Spec PyProof.Rows PySem.W
/-- a method with keywords -/
def tMethN (C : Addr) (m : Str) (n j : Nat) (sp : Sp) (gV : List V → List V → List V) (E : XK) (ta : TE) (t tk : TA) : TE := fun σ H Q => ta σ H fun x H1 => ∃ a dx fs, x = .ref a ∧ H1 a = some (.ins C dx fs) ∧ fs.lookup m = none ∧
  t σ H1 fun vs H2 => tk σ H2 fun zs H3 => vs.length = n ∧ zs.length = j ∧ sp (gV (x :: vs) zs) H3 Q E
section
variable {X : Cx} {CX : CXT} {k n : Nat} {f C : Addr} {fd : FuncData} {ps ks : List Str} {sp : Sp} {E : XK} {m : Str} {pos apos : Pos} {e o : Expr} {es : List Expr} {kws : List Keyword} {ta : TE} {t tk : TA} {g : List Value → List Value → List Value} {gV : List V → List V → List V}
theorem pe_methN {pl : Sem Bool} (he : PE X o ta) (c : Cls X.K C) (hm : Meth X.K C m f) (F : FnOk X.prog X.w X.K X.mg X.base CX k f fd ps sp) (hr : Room k X.A) (hb : KBn X.K fd ps (n + 1) ks g gV) (hx : Passes CX X E) (ha : PA X (e :: es) t) (hkw : PK X kws tk)
    (hall : (backToKw pos (keywordEach kws X.env)).all (·.1.isSome) = true := by rfl) (hks : (backToKw pos (keywordEach kws X.env)).filterMap (·.1) = ks := by rfl)
    (hst : starEach (e :: es) X.env = (false, eval e X.env) :: starEach es X.env := by rfl) (hpl : ((backTo pos (starEach (e :: es) X.env)).any (·.1) || (backToKw pos (keywordEach kws X.env)).any (·.1.isNone)) = false := by rfl)
    (ht : eval (.Call (.Attribute o m apos) (e :: es) kws pos) X.env = (do
      let ov ← eval o X.env
      standAt apos.atName
      let (f, first) ← holding [ov] (getMethod ov m pl)
      callWith pos f first (backTo pos (starEach (e :: es) X.env)) (backToKw pos (keywordEach kws X.env))) := by rfl) :
    PE X (.Call (.Attribute o m apos) (e :: es) kws pos) (tMethN C m n ks.length sp gV E ta t tk) := by
  refine ⟨fun pins s σ H Q I h => ?_⟩
  refine PySem.W.methodCall_KW (pl := pl) (thn (he.run pins s σ H _ I h) fun u s1 ⟨x, H1, I1, rx, a, dx, fs, ex, ea, l, q⟩ => ?_) ht
  subst ex
  obtain rfl : u = Value.ref a := rx
  refine getmeth_ok I1 ea c hm l ?_
  refine PySem.W.callWith_KW (first := [.ref a]) (h₀ := X.base) I.ok.mod.kin hm.kp hall (thn (ha.run pos pins s1 σ H1 _ I1 q) fun us s2 ⟨vs, H2, I2, r, q2⟩ => ?_) hpl hst
  refine thn (hkw.run pos pins s2 σ H2 _ I2 q2) fun ws s3 ⟨zs, H3, I3, rz, l1, l2, q3⟩ => ⟨I3.kIn, ?_⟩
  rw [hks]
  exact run_fnN (us := .ref a :: us) (vs := .ref a :: vs) F hr hb hx I3 (.cons rfl r) rz (by rw [List.length_cons, l1]) l2 q3
/-- an expression that may be read in two ways -/
theorem pe_two {a : Expr} {t1 t2 : TE} (h1 : PE X a t1) (h2 : PE X a t2) : PE X a (fun σ H Q => t1 σ H Q ∨ t2 σ H Q) :=
  ⟨fun pins s σ H Q I h => h.elim (h1.run pins s σ H Q I) (h2.run pins s σ H Q I)⟩
end
end L2

set_option Elab.async false
set_option linter.all false
set_option maxRecDepth 100000
set_option maxHeartbeats 4000000
/-! zip over two tuples, as a walk; != of own objects of two classes -/
namespace L2
open PySem PySem.Spec PyProof.Rows
theorem walk_zipT {K : PySem.W.Frag} {a b : Addr} {xs ys : List V} {n : Nat} (hn : n = min xs.length ys.length) : Walk (RZ.ItzT K a b) n (fun H => SqT K H a xs ∧ SqT K H b ys) (YPair (fun i => xs[i]?) (fun i => ys[i]?)) := by
  subst hn
  refine ⟨fun i _ hi q => ?_, fun _ q => ⟨xs, ys, q.1, q.2, by omega⟩, fun i H v H' _ q y => ?_⟩
  · have h1 : i < xs.length := by omega
    have h2 : i < ys.length := by omega
    exact ⟨xs, ys, xs[i], ys[i], q.1, q.2, by simp [h1], by simp [h2]⟩
  · obtain ⟨T, x, z, h1, h2, h3, h4, h5⟩ := y
    exact ⟨T, x, z, h1, h2, h3, h4 xs q.1, h5 ys q.2⟩
end L2
namespace Tw
open PySem PySem.Spec PyProof.Rows L2
open PySem.W (InstAt looks_findIn looks_subIn ifBound_K cmp_K)
section
variable {X : Cx} {CX : CXT} {k : Nat} {f C D : Addr} {fd : FuncData} {ps : List Str} {sp : Sp} {E : XK}
/-- != where the other one is an object of another class -/
def rNeD (C D : Addr) (sp : Sp) (E : XK) : R2 := fun x y H Q =>
  ∃ a dx fs b dy gs, x = .ref a ∧ H a = some (.ins C dx fs) ∧ y = .ref b ∧ H b = some (.ins D dy gs) ∧ sp [.ref a, y] H (fun v H' => ∃ r, v = .bl r ∧ Q (.bl (!r)) H') E
theorem op_ne_two (c : EqC X.K C f) (hd : PySem.W.notFirst X.K C (.ref D) = true) (F : FnOk X.prog X.w X.K X.mg X.base CX k f fd ps sp) (hr : Room (k + 1) X.A) (hb : Binds X.K fd ps []) (hx : Passes CX X E) : OpR X (compareOp .NotEq) (rNeD C D sp E) := by
  intro pins s σ H x y v u Q I rx ry ⟨a, dx, fs, b, dy, gs, ex, ha, ey, hb2, q⟩
  subst ex
  subst ey
  obtain rfl : v = Value.ref a := rx
  obtain rfl : u = Value.ref b := ry
  obtain ⟨mA, O, rr, _, _, _⟩ := ins_get I.hok ha
  obtain ⟨od, J, hl⟩ := O.look
  obtain ⟨mB, OB, rrB, _, _, _⟩ := ins_get I.hok hb2
  obtain ⟨odB, JB, hlB⟩ := OB.look
  obtain ⟨m0, hF⟩ := I.fr
  show wpAny _ _ (richCompare .NotEq (.ref a) (.ref b)) _ _ _
  refine ne_K (Room.units0 hr.in1) hr.units0 hF I.ok.mod.kin J JB.type hd c (thn (run_sub F (Sub.in1 ⟨hr, rfl⟩) hb hx I (.cons (relR a) (.cons (relR b) .nil)) q) fun r s' ⟨z, H', I', rz, b2, ez, q'⟩ => ?_)
  subst ez
  exact ⟨b2, rz, _, H', I', relB (!b2), q'⟩
end
end Tw

set_option Elab.async false
set_option linter.all false
set_option maxRecDepth 100000
set_option maxHeartbeats 2000000
/-! own rules: xs.count(k), t.count(k) (whole numbers); sum(d.values()) -/
namespace L2
open PySem PySem.Spec PyProof.Rows L2
theorem plain_ints : ∀ ns : List Int, PyData.plainAll (ns.map PyData.int) = true
  | [] => rfl
  | n :: ns => by
    simp only [List.map_cons, PyData.plainAll, plain_ints ns]
    rfl
theorem count_ints (k : Int) : ∀ ns : List Int, (ns.map PyData.int).countP (fun y => PyData.eqv y (.int k)) = ns.count k
  | [] => rfl
  | n :: ns => by
    rw [List.map_cons, List.countP_cons, count_ints k ns, List.count_cons]
    have e : PyData.eqv (.int n) (.int k) = (n == k) := rfl
    rw [e]
theorem dpAll_ints (K : PySem.W.Frag) (H : Hp) : ∀ ns : List Int, DpAll K H (ns.map V.int) (ns.map PyData.int)
  | [] => .nil
  | n :: ns => .cons (.int n) (dpAll_ints K H ns)
section
variable {X : Cx}
def rCountL (K : PySem.W.Frag) : V → List V → Hp → VK → Prop := fun x vs H Q => ∃ (a : Addr) (ns : List Int) (k : Int), x = .ref a ∧ vs = [.int k] ∧ SqL K H a (ns.map V.int) ∧ Q (.int (ns.count k : Nat)) H
def rCountT (K : PySem.W.Frag) : V → List V → Hp → VK → Prop := fun x vs H Q => ∃ (a : Addr) (ns : List Int) (k : Int), x = .ref a ∧ vs = [.int k] ∧ SqT K H a (ns.map V.int) ∧ Q (.int (ns.count k : Nat)) H
theorem mt_countL (hu : X.A.units + 65 < cLine) : MtR X "list.count" (rCountL X.K) := by
  intro pins s σ H x xs v us Q I rx rxs h
  obtain ⟨a, ns, k, rfl, rfl, hl, q⟩ := h
  cases rx
  cases rxs with
  | cons ry rt =>
    rename_i uy ut
    cases rt
    obtain ⟨its, rv, pl, hlen⟩ := I.list hl
    obtain ⟨as, h4⟩ := Dp.readsAll I (ns.map PyData.int) _ its (dpAll_ints _ _ ns) rv
    obtain ⟨bs, r1⟩ := Dp.reads I (.int k) _ uy (.int k) ry
    refine PySem.SeqAt.count_list_data (xs := ns.map PyData.int) (d := .int k) pl.isList h4 r1 (plain_ints ns) rfl (Nat.lt_of_le_of_lt (Nat.add_le_add_left (Nat.min_le_right _ _) _) (by simp only [PyData.depth]; omega)) ?_
    rw [count_ints]
    exact ⟨.int _, H, I.tok _, ⟨_, rfl⟩, q⟩
theorem mt_countT (hu : X.A.units + 65 < cLine) : MtR X "tuple.count" (rCountT X.K) := by
  intro pins s σ H x xs v us Q I rx rxs h
  obtain ⟨a, ns, k, rfl, rfl, hl, q⟩ := h
  cases rx
  cases rxs with
  | cons ry rt =>
    rename_i uy ut
    cases rt
    obtain ⟨its, rv, pl, hlen⟩ := I.tuple hl
    obtain ⟨as, h4⟩ := Dp.readsAll I (ns.map PyData.int) _ its (dpAll_ints _ _ ns) rv
    obtain ⟨bs, r1⟩ := Dp.reads I (.int k) _ uy (.int k) ry
    refine PySem.SeqAt.count_tuple_data (xs := ns.map PyData.int) (d := .int k) pl h4 r1 (plain_ints ns) rfl (Nat.lt_of_le_of_lt (Nat.add_le_add_left (Nat.min_le_right _ _) _) (by simp only [PyData.depth]; omega)) ?_
    rw [count_ints]
    exact ⟨.int _, H, I.tok _, ⟨_, rfl⟩, q⟩
theorem preSum_list : ∀ (is : List Int) (n : Nat), preSum (fun i => is.getD i 0) n = (is.take n).sum := by
  intro is n
  induction n with
  | zero => rfl
  | succ n ih =>
    rw [preSum, ih]
    by_cases h : n < is.length
    · rw [← List.take_append_getElem h, List.sum_append, List.getD_eq_getElem?_getD, List.getElem?_eq_getElem h]
      simp
    · rw [List.take_of_length_le (by omega), List.take_of_length_le (by omega), List.getD_eq_getElem?_getD, List.getElem?_eq_none (by omega)]
      simp
/-- sum(o.values()), a dict with int values -/
def tSumVals (td : TE) : TE := fun σ H Q => td σ H fun x H1 => ∃ (a : Addr) (kvs : List (Key × V)) (is : List Int), x = V.ref a ∧ H1 a = some (.dK kvs) ∧ kvs.map (·.2) = is.map V.int ∧ Q (.int is.sum) H1
variable {o : Expr} {p pos apos mpos : Pos} {td : TE}
theorem pe_sumVals (hc : X.calm = true) (hg : Gl X "sum") (hm : X.mg "sum" = none) (hd : PE X o td) (hbase : attributeBase o "values" X.env (eval o X.env) = eval o X.env := by rfl) (hline : (apos.endLine == mpos.line) = true := by rfl)
    (hse : starEach [Expr.Call (.Attribute o "values" apos) [] [] mpos] X.env = [(false, eval (Expr.Call (.Attribute o "values" apos) [] [] mpos) X.env)] := by rfl) :
    PE X (.Call (.Name "sum" p) [.Call (.Attribute o "values" apos) [] [] mpos] [] pos) (tSumVals td) := by
  refine ⟨fun pins s σ H Q I h => ?_⟩
  refine wpAny_Call_Name_kw (ld_blt I hg hm (u := .builtin "sum") (by first | rfl | decide +kernel) ?_ (by first | decide +kernel | decide) (by first | decide +kernel | decide))
  rw [hse]
  refine PySem.callWith_builtin1 (wpAny_Call_method0_late hbase hline (thn (hd.run pins s σ H _ I h) fun v s1 ⟨x, H1, I1, r1, a, kvs, is, ex, ha, hv, q⟩ => ?_))
  subst ex
  obtain rfl : v = Value.ref a := r1
  obtain ⟨_, hsys, vs, rel, dof⟩ := dk_of I1.hok ha
  obtain ⟨ep, dat⟩ := dof.dictAt
  have dat' := dat
  obtain ⟨ob, es, ho, ex, hdat, hko, hpr, hnd⟩ := dat'
  refine ⟨"dict", "dict.values", F.plainAttrs_dict, F.slot_dict_values, F.type_dict_values, ⟨ob, ho, ex.1⟩, fun b e => ?_, Calls.callWith_builtin rfl (PySem.evalArgs_none ?_)⟩
  · cases e
    exact ⟨ob, ho, ex.2.1⟩
  refine call_meetsIn F.slot_dict_values ⟨ob, ho, ex.1⟩ F.entry_dict_values (F.args_dict_values_1 _) (meets_dict_values (mixKind X.prog X.w) a hsys) ⟨⟨vs, dof⟩, ?_⟩
  have k1 : ∀ b u, s1.heap.get? b = some u → (s1.heap.push { cls := .type "dict_values", data := .fields #[.ref a] }).get? b = some u := fun b u e => Heap.get?_push_of_some _ e
  have dat1 : (s1.heap.push { cls := .type "dict_values", data := .fields #[.ref a] }).DictAt (mixKind X.prog X.w) a vs ep := dat.keep k1
  have hlv : vs.length = is.length := by
    have e1 := congrArg List.length hv
    rw [List.length_map, List.length_map] at e1
    rw [← e1]
    exact (KV.length rel).symm
  have hval : ∀ (i : Nat) (v : Value), (∃ k, vs[i]? = some (k, v)) → ∃ t, v = Value.int (is.getD i 0) t := fun i v ⟨k, hk⟩ => by
    obtain ⟨x, h1, h2⟩ := KV.at' rel hk
    have e1 : (kvs.map (·.2))[i]? = some x := by rw [List.getElem?_map, h1] <;> rfl
    rw [hv, List.getElem?_map] at e1
    obtain ⟨j, hj, e2⟩ := Option.map_eq_some_iff.mp e1
    subst e2
    obtain ⟨t, e3⟩ := h2
    refine ⟨t, ?_⟩
    rw [e3, List.getD_eq_getElem?_getD, hj] <;> rfl
  refine call_sum_walkG (wpAny_pyIter_values (v := s1.heap.objs.size) (d := a) ⟨_, Heap.get?_push_size _ rfl, rfl, rfl⟩ dat1 ?_)
  have hlt : a < s1.heap.objs.size := Heap.lt_size ho
  have hsz : (s1.heap.push { cls := .type "dict_values", data := .fields #[.ref a] }).objs.size = s1.heap.objs.size + 1 := Heap.size_push _ _
  refine ⟨_, _, _, _, _, _, fun i => is.getD i 0, rfl, Walks.dictValues (knd := mixKind X.prog X.w) (A := X.A.in1) (I.ok.hd hc) (s1.heap.push { cls := .type "dict_values", data := .fields #[.ref a] }).objs.size a (by rw [hsz]; exact Nat.ne_of_lt (Nat.lt_succ_of_lt hlt)) vs ep,
    ⟨⟨_, Heap.get?_push_size _ rfl, rfl, rfl⟩, dat1.keep fun b u e => Heap.get?_push_of_some _ e⟩, fun b hb => ?_, hval, fun h' tk t' hk => ?_⟩
  · show b < ((s1.heap.push _).push _).objs.size
    rw [Heap.size_push, Heap.size_push]
    rw [hsz] at hb
    rcases List.mem_cons.mp hb with e | hb
    · rw [e]
      exact Nat.lt_succ_self _
    · have e : b = a := List.mem_singleton.mp hb
      rw [e]
      exact Nat.lt_succ_of_lt (Nat.lt_succ_of_lt hlt)
  · rw [preSum_list, hlv, List.take_length]
    refine ⟨.int _, H1, I1.kept (t' := tk) fun b u e => hk b u (fun hmem => ?_) (Heap.get?_push_of_some _ (k1 b u e)), ⟨t', rfl⟩, q⟩
    have e1 : b = (s1.heap.push { cls := .type "dict_values", data := .fields #[.ref a] }).objs.size := List.mem_singleton.mp hmem
    have e2 := Heap.lt_size e
    rw [hsz] at e1
    rw [e1] at e2
    exact absurd e2 (Nat.not_lt.mpr (Nat.le_succ _))
end
/-- a dict by a comprehension, over any walk -/
theorem dc_it {J : It} {n : Nat} {G : Hp → Prop} {Y : Nat → Hp → V → Hp → Prop} (w : Walk J n G Y) {g : TG} {tt : TT} {tk tv : TE} {vs : List Nat} {σ : St} {H1 : Hp} {D : Addr} {Qd : Hp → Prop} (Pv : Nat → Hp → Prop) (h0 : Pv 0 (upd H1 D (.dK []))) (hG : ∀ i H, i ≤ n → Pv i H → G H)
    (hs : ∀ i x H H', i < n → Pv i H → Y i H x H' → g x (wipe σ vs) H' fun σ2 H2 => wipe σ2 vs = wipe σ vs ∧ tt σ2 H2 fun b H3 =>
      if b = true then tk σ2 H3 fun y H4 => tv σ2 H4 fun z H5 => ∃ kvs k, y = kV k ∧ H5 D = some (.dK kvs) ∧ kvs.length < sizeLine ∧ Pv (i + 1) (upd H5 D (.dK (putK kvs k z))) else Pv (i + 1) H3) (hd : ∀ H, Pv n H → Qd H) :
    ∃ W : Nat → Nat → Hp → Prop, (∃ m, W 0 m (upd H1 D (.dK []))) ∧ ∀ i m H, W i m H →
      (J.stop i H ∧ Qd H) ∨ (J.go i H ∧ ∃ Nx : Hp → Prop, (∀ H', Nx H' → ∃ m', m' < m ∧ W (i + 1) m' H') ∧ ∀ x H', J.yld i H x H' → g x (wipe σ vs) H' fun σ2 H2 => wipe σ2 vs = wipe σ vs ∧ tt σ2 H2 fun b H3 =>
        if b = true then tk σ2 H3 fun y H4 => tv σ2 H4 fun z H5 => ∃ kvs k, y = kV k ∧ H5 D = some (.dK kvs) ∧ kvs.length < sizeLine ∧ Nx (upd H5 D (.dK (putK kvs k z))) else Nx H3) := by
  refine ⟨fun i m H => m = n - i ∧ i ≤ n ∧ Pv i H, ⟨n, by simp, Nat.zero_le _, h0⟩, ?_⟩
  rintro i m H ⟨rfl, hi, p⟩
  have q := hG i H hi p
  by_cases hlt : i < n
  · refine .inr ⟨w.goes i H hlt q, Pv (i + 1), fun H' p' => ⟨n - (i + 1), by omega, rfl, hlt, p'⟩, fun x H' y => hs i x H H' hlt p (w.yields i H x H' hlt q y)⟩
  · have e : i = n := by omega
    subst e
    exact .inl ⟨w.stops H q, hd H p⟩
/-- what stays while a thing is locked stays behind -/
theorem same_lock {H H' : Hp} {d : Addr} {u v : HO} (h : H d = some u) (s : Same (upd H d v) H') : Same H (upd H' d u) := fun b o e => by
  by_cases hb : b = d
  · subst hb
    rw [upd_same, ← h, e]
  · rw [upd_ne hb]
    exact s b o (by rw [upd_ne hb]; exact e)
theorem ite_b {b c : Bool} {A B : Prop} (h : b = c) (k : if c = true then A else B) : if b = true then A else B := h ▸ k
/-- set(xs), xs a list or a tuple of whole numbers -/
def rSetSq (K : PySem.W.Frag) (w : World) : List V → Hp → VK → Prop := fun xs H Q => ∃ (l : Addr) (ns : List Int), xs = [V.ref l] ∧ (SqL K H l (ns.map V.int) ∨ SqT K H l (ns.map V.int)) ∧ ns.length ≤ 1000 ∧ ∀ p n, n ≤ ns.length → H p = none → Q (.ref p) (upd H p (SetO w p (fun j => decide (j ∈ ns)) n))
theorem cr_setSq {X : Cx} (hc : X.calm = true) : CallR X (.type "set") (rSetSq X.K X.w) := by
  intro pins s σ H vs us Q I rv ⟨l, ns, e, h, hl, q⟩
  rcases h with h | h
  · exact cr_setLI hc pins s σ H vs us Q I rv ⟨l, ns, e, h, hl, q⟩
  · exact cr_setTI hc pins s σ H vs us Q I rv ⟨l, ns, e, h, hl, q⟩
end L2

set_option Elab.async false
set_option linter.all false
set_option maxRecDepth 100000
set_option maxHeartbeats 2000000
/-! own rules: tuples of which it is known that they have no dict of their own: their methods -/
namespace L2
open PySem PySem.Spec PyProof.Rows L2
/-- a tuple that was made by tuple(..), with the object that it is -/
def TupF (H : Hp) (a : Addr) (xs : List V) : Prop := ∃ o : Obj, H a = some (.frz o (.tup xs)) ∧ o.dict = none
theorem TupF.same {H H' : Hp} {a : Addr} {xs : List V} (h : TupF H a xs) (s : Same H H') : TupF H' a xs := let ⟨o, e, d⟩ := h; ⟨o, s _ _ e, d⟩
theorem TupF.sq {K : PySem.W.Frag} {H : Hp} {a : Addr} {xs : List V} (h : TupF H a xs) : SqT K H a xs := let ⟨o, e, _⟩ := h; .inl (.inr ⟨o, e⟩)
section
variable {X : Cx}
/-- tuple(xs) of a list; of such a tuple itself -/
def rTupF (K : PySem.W.Frag) : List V → Hp → VK → Prop := fun xs H Q => ∃ p ys, xs = [V.ref p] ∧ ((SqL K H p ys ∧ ∀ l o, H l = none → o.dict = none → Q (.ref l) (upd H l (.frz o (.tup ys)))) ∨ (SqT K H p ys ∧ Q (.ref p) H))
theorem call_tupF : CallR X (.type "tuple") (rTupF X.K) := by
  intro pins s σ H xs us Q I r h
  obtain ⟨p, ys, rfl, h⟩ := h
  rcases h with ⟨hq, q⟩ | ⟨hq, q⟩
  · obtain ⟨u, rfl, rx⟩ := vals1 r
    cases rx
    obtain ⟨its, r', pl, hz⟩ := I.list hq
    have hlen := r'.length
    refine call_tuple_list pl.isList (fun h' kp => ?_) (by simp only [List.size_toArray] <;> omega)
    have I1 : Inv X pins σ H { s with heap := h' } := I.kept (t' := s.toks) kp
    have I2 : Inv X pins σ (upd H h'.objs.size (.frz { cls := .type "tuple", data := .seq its.toArray } (.tup ys))) { s with heap := h'.push { cls := .type "tuple", data := .seq its.toArray } } :=
      I1.laid (t' := s.toks) (fun b o e => Heap.get?_push_of_some _ e) (Nat.le_refl _) (show ObjOk X.prog X.w _ _ _ (.frz _ (.tup ys)) from ⟨Heap.get?_push_size _ rfl, hz, its, r', IsTup.new _ _⟩)
    exact ⟨.ref h'.objs.size, _, I2, rfl, q _ _ (I1.hok.fresh (Nat.le_refl _)) rfl⟩
  · exact call_tuple_of pins s σ H _ us Q I r ⟨p, ys, rfl, .inr ⟨hq, q⟩⟩
def tBMF (r : V → List V → Hp → VK → Prop) (to : TE) (t : TA) : TE := fun σ H Q => to σ H fun x H1 => (∃ a xs, x = .ref a ∧ TupF H1 a xs) ∧ t σ H1 fun xs H2 => r x xs H2 Q
variable {o e : Expr} {es : List Expr} {to : TE} {t : TA} {name : Str} {apos cpos : Pos} {T id : String} {r : V → List V → Hp → VK → Prop}
theorem pe_bmF (slot : Slot "tuple" name id) (hty : typeOf (.builtin id) = pure (.type "method_descriptor")) (hm : MtR X id r) (ho : PE X o to) (ha : PA X (e :: es) t)
    (hbase : attributeBase o name X.env (eval o X.env) = eval o X.env := by rfl)
    (hfew : ((backTo cpos (starEach (e :: es) X.env)).all (fun x => !x.1) && (backToKw cpos (keywordEach [] X.env)).all (fun x => x.1.isSome)
      && decide ((e :: es).length + ([] : List Keyword).length + (if ([] : List Keyword).isEmpty then 0 else 1) < 30)) = true := by rfl)
    (hline : (apos.endLine == cpos.line) = true := by rfl) (hs : starEach (e :: es) X.env = (false, eval e X.env) :: starEach es X.env := by rfl) (hplain : (backTo cpos (starEach es X.env)).any (·.1) = false := by rfl) :
    PE X (.Call (.Attribute o name apos) (e :: es) [] cpos) (tBMF r to t) := by
  refine ⟨fun pins s σ H Q I h => ?_⟩
  refine wpAny_Call_method_late hbase hfew hline rfl (thn (ho.run pins s σ H _ I h) fun v s1 ⟨x, H1, I1, r1, ty, q1⟩ => ?_)
  obtain ⟨a, xs, rfl, oo, ho2, hd⟩ := ty
  cases r1
  obtain ⟨g1, g2⟩ := I1.hok a _ ho2
  obtain ⟨hz, its, rv, hit⟩ := g2
  obtain ⟨o2, e2, hc, n2, hdat⟩ := hit
  rw [g1] at e2
  cases e2
  refine ⟨"tuple", id, F.plainAttrs_tuple, slot, hty, ⟨_, g1, hc⟩, fun b eb => ?_, ?_⟩
  · cases eb
    exact ⟨_, g1, hd⟩
  have hA := ha.run cpos pins s1 σ H1 _ I1 q1
  rw [hs] at hA ⊢
  refine Calls.callWith_builtin (by show (false || (backTo cpos (starEach es X.env)).any (·.1)) = false; rw [hplain] <;> rfl) (Calls.evalArgs_plain ?_)
  exact thn hA fun us s2 ⟨vs, H2, I2, r2, q2⟩ => hm pins s2 σ H2 (.ref a) vs _ us Q I2 (show RelV (.ref a) (Value.ref a) from rfl) r2 q2
theorem lay_ints : ∀ ns : List Int, PyData.canLayAll0 (ns.map PyData.int) = true
  | [] => rfl
  | n :: ns => by
    rw [List.map_cons, PyData.canLayAll0, lay_ints ns]
    rfl
/-- t.index(k), whole numbers, k there -/
def rIndexT (K : PySem.W.Frag) : V → List V → Hp → VK → Prop := fun x vs H Q => ∃ (a : Addr) (ns : List Int) (k : Int) (j : Nat), x = .ref a ∧ vs = [.int k] ∧ SqT K H a (ns.map V.int) ∧ ns[j]? = some k ∧ (∀ m, m < j → ns[m]? ≠ some k) ∧ Q (.int (j : Nat)) H
theorem mt_indexTI (hu : X.A.units + 65 < cLine) : MtR X "tuple.index" (rIndexT X.K) := by
  intro pins s σ H x xs v us Q I rx rxs h
  obtain ⟨a, ns, k, j, rfl, rfl, hl, hj, hno, q⟩ := h
  cases rx
  cases rxs with
  | cons ry rt =>
    rename_i uy ut
    cases rt
    obtain ⟨its, rv, pl, hlen⟩ := I.tuple hl
    obtain ⟨as, h4⟩ := Dp.readsAll I (ns.map PyData.int) _ its (dpAll_ints _ _ ns) rv
    obtain ⟨bs, r1⟩ := Dp.reads I (.int k) _ uy (.int k) ry
    have hjl := (List.getElem?_eq_some_iff.mp hj).1
    have hvl := rv.length
    rw [List.length_map] at hvl hlen
    obtain ⟨⟨cls, dd, data, sl⟩, ho, hc, n, hd'⟩ := id pl
    simp only at hc hd'
    subst hc hd'
    have hxs : PyData.canLayAll0 (ns.map PyData.int) = true := lay_ints ns
    have hmap : its.map (SeqAt.readOf s.heap) = ns.map PyData.int := SeqAt.readsAll_map _ its as hxs h4
    have at_ : ∀ (m : Nat) (hm : m < its.toArray.size) (z : Int), ns[m]? = some z → SeqAt.readOf s.heap its.toArray[m] = .int z := by
      intro m hm z hz
      have hml : m < its.length := by simpa using hm
      have e1 : (its.map (SeqAt.readOf s.heap))[m]? = some (.int z) := by rw [hmap, List.getElem?_map, hz]; rfl
      rw [List.getElem?_map, List.getElem?_eq_getElem hml] at e1
      have e2 : SeqAt.readOf s.heap its[m] = .int z := Option.some.inj e1
      simpa using e2
    have hj2 : j < its.toArray.size := by simp only [List.size_toArray]; omega
    refine call_meets F.slot_tuple_index ⟨_, ho, rfl⟩ F.entry_tuple_index (F.args_tuple_index_2 _ _)
      (TI.tuple_indexAt a its.toArray n dd sl uy (fun u => PyData.eqv (SeqAt.readOf s.heap u) (.int k)) j hj2 ?_ ?_) ⟨ho, SeqAt.items_eqAt (vs := its.toArray) (show ReadsAll s.heap its.toArray.toList (ns.map PyData.int) as from h4) r1 hxs rfl (Nat.lt_of_le_of_lt (Nat.add_le_add_left (Nat.min_le_right _ _) _) (by simp only [PyData.depth]; omega)), ?_⟩
    · show PyData.eqv (SeqAt.readOf s.heap its.toArray[j]) (.int k) = true
      rw [at_ j hj2 k hj]
      show (k == k) = true
      exact beq_self_eq_true k
    · intro m hm hmj
      have hmn : m < ns.length := by simp only [List.size_toArray] at hm; omega
      have hz : ns[m]? = some ns[m] := List.getElem?_eq_getElem hmn
      show PyData.eqv (SeqAt.readOf s.heap its.toArray[m]) (.int k) = false
      rw [at_ m hm _ hz]
      show (ns[m] == k) = false
      exact beq_eq_false_iff_ne.mpr fun z => hno m hmj (by rw [hz, z])
    · exact ⟨.int (j : Nat), H, I.tok _, ⟨_, rfl⟩, q⟩
/-- x.count(y), two names, x a list or a known tuple of whole numbers -/
def tCnt (K : PySem.W.Frag) (i j : Nat) : TE := fun σ H Q => ∃ (a : Addr) (ns : List Int) (k : Int), σ[i]? = some (some (.ref a)) ∧ σ[j]? = some (some (.int k)) ∧ (SqL K H a (ns.map V.int) ∨ TupF H a (ns.map V.int)) ∧ Q (.int (ns.count k : Nat)) H
theorem pe_cnt {e : Expr} {i j : Nat} (h1 : PE X e (tBM X.K "list" (rCountL X.K) (tVar i) (tCons (tVar j) tNil))) (h2 : PE X e (tBMF (rCountT X.K) (tVar i) (tCons (tVar j) tNil))) : PE X e (tCnt X.K i j) := by
  refine ⟨fun pins s σ H Q I h => ?_⟩
  obtain ⟨a, ns, k, e1, e2, h, q⟩ := h
  rcases h with h | h
  · exact h1.run pins s σ H Q I ⟨_, e1, .inl ⟨rfl, _, h⟩, _, e2, a, ns, k, rfl, rfl, h, q⟩
  · exact h2.run pins s σ H Q I ⟨_, e1, ⟨a, _, rfl, h⟩, _, e2, a, ns, k, rfl, rfl, h.sq, q⟩
end
/-- two promises of one def -/
theorem FnOk.or {P : Program} {w : World} {K : PySem.W.Frag} {mg : Str → Option Value} {base : Heap} {CX : CXT} {k : Nat} {f : Addr} {fd : FuncData} {ps : List Str} {s1 s2 : Sp} (F1 : FnOk P w K mg base CX k f fd ps s1) (F2 : FnOk P w K mg base CX k f fd ps s2) :
    FnOk P w K mg base CX k f fd ps (fun vs H Q E => s1 vs H Q E ∨ s2 vs H Q E) := by
  refine ⟨fun vs H Q E h => h.elim (F1.len vs H Q E) (F2.len vs H Q E), ?_⟩
  intro A outer s H args us vs Q E hr e b
  have h1 := F1.run A outer s H args us vs Q E hr e b
  have h2 := F2.run A outer s H args us vs Q E hr e b
  intros
  first
    | (rename_i h; exact h.elim (fun z => h1 (by assumption) z) (fun z => h2 (by assumption) z))
    | (rename_i h; exact h.elim h1 h2)
end L2

set_option Elab.async false
set_option linter.all false
set_option maxRecDepth 100000
set_option maxHeartbeats 2000000
/-! own rules: tuple(xs), xs a list or a tuple, in one reading -/
namespace L2
open PySem PySem.Spec PyProof.Rows L2
def rTupU : List V → Hp → VK → Prop := fun xs H Q => ∃ p ys, xs = [V.ref p] ∧ (H p = some (.lst ys) ∨ H p = some (.tup ys)) ∧ ∀ t H', Same H H' → H' t = some (.tup ys) → Q (.ref t) H'
theorem call_tupU {X : Cx} : CallR X (.type "tuple") rTupU := by
  intro pins s σ H xs us Q I r ⟨p, ys, e, h, q⟩
  rcases h with h | h
  · exact call_tuple_of pins s σ H xs us Q I r ⟨p, ys, e, .inl ⟨SqL.of h, fun l nl => q l _ (fun b o e => by rw [upd_ne (ne_of_none e nl)]; exact e) upd_same⟩⟩
  · exact call_tuple_of pins s σ H xs us Q I r ⟨p, ys, e, .inr ⟨SqT.of h, q p H (Same.refl _) h⟩⟩
def rCatU : R2 := fun x y H Q => ∃ a b xs ys, x = .ref a ∧ y = .ref b ∧ H a = some (.tup xs) ∧ H b = some (.tup ys) ∧ xs.length + ys.length ≤ sizeLine ∧ ∀ t H', Same H H' → H' t = some (.tup (xs ++ ys)) → Q (.ref t) H'
theorem op_catU {X : Cx} : OpR X (binaryOp .Add) rCatU := by
  intro pins s σ H x y v u Q I rx ry h
  obtain ⟨a, b, xs, ys, ex, ey, ha, hb, hz, q⟩ := h
  refine op_catA pins s σ H x y v u Q I rx ry ⟨a, b, xs, ys, ex, ey, SqT.of ha, SqT.of hb, hz, fun e => ?_, fun _ e => ?_, fun _ _ p np => q p _ (fun b o e => by rw [upd_ne (ne_of_none e np)]; exact e) upd_same⟩
  · exact q b H (fun _ _ e => e) (by rw [e]; exact hb)
  · exact q a H (fun _ _ e => e) (by rw [e, List.append_nil]; exact ha)
def rSlU : V → Option Int → Option Int → Hp → VK → Prop := fun x lo hi H Q => ∃ a xs, x = .ref a ∧ H a = some (.tup xs) ∧ ∀ (p : Addr) (H' : Hp), Same H H' → H' p = some (.tup (cutV xs lo hi)) → Q (.ref p) H'
theorem sl_tupU {X : Cx} : SlR X rSlU := by
  intro pins s σ H x v vl vu lo hi sl Q I rx hs pl pu h
  obtain ⟨a, xs, ex, hx, q⟩ := h
  refine sl_tupA pins s σ H x v vl vu lo hi sl Q I rx hs pl pu ⟨a, xs, ex, SqT.of hx, fun y => ?_, fun _ p np => q p _ (fun b o e => by rw [upd_ne (ne_of_none e np)]; exact e) upd_same⟩
  refine q a H (fun _ _ e => e) ?_
  have : cutV xs lo hi = xs := by
    unfold cutV
    rw [y.1, y.2, List.drop_zero, Nat.sub_zero, List.take_length]
  rw [this]
  exact hx
end L2
namespace Tw
open PySem PySem.Spec PyProof.Rows L2 PySem.W
section
variable {X : Cx} {CX : CXT} {k : Nat} {f C D : Addr} {fd : FuncData} {ps : List Str} {sp : Sp} {E : XK}
theorem op_eq_two (c : EqC X.K C f) (hd : PySem.W.notFirst X.K C (.ref D) = true) (F : FnOk X.prog X.w X.K X.mg X.base CX k f fd ps sp) (hr : Room k X.A) (hb : Binds X.K fd ps []) (hx : Passes CX X E) : OpR X (compareOp .Eq) (fun x y H Q =>
  ∃ a dx fs b dy gs, x = .ref a ∧ H a = some (.ins C dx fs) ∧ y = .ref b ∧ H b = some (.ins D dy gs) ∧ sp [.ref a, y] H (fun v H' => ∃ r, v = .bl r ∧ Q (.bl r) H') E) := by
  intro pins s σ H x y v u Q I rx ry ⟨a, dx, fs, b, dy, gs, ex, ha, ey, hb2, q⟩
  subst ex
  subst ey
  obtain rfl : v = Value.ref a := rx
  obtain rfl : u = Value.ref b := ry
  obtain ⟨mA, O, rr, _, _, _⟩ := ins_get I.hok ha
  obtain ⟨od, J, hl⟩ := O.look
  obtain ⟨mB, OB, rrB, _, _, _⟩ := ins_get I.hok hb2
  obtain ⟨odB, JB, hlB⟩ := OB.look
  obtain ⟨m0, hF⟩ := I.fr
  show wpAny _ _ (richCompare .Eq (.ref a) (.ref b)) _ _ _
  refine cmp_K hr.units0 hF I.ok.mod.kin J JB.type hd c.eq c.fn (thn (run_sub F ⟨hr, rfl⟩ hb hx I (.cons (relR a) (.cons (relR b) .nil)) q) fun r s' ⟨z, H', I', rz, b2, ez, q'⟩ => ?_)
  subst ez
  obtain rfl : r = Value.bool b2 := rz
  exact ⟨_, H', I', relB b2, q'⟩
end
end Tw

set_option Elab.async false
set_option linter.all false
set_option maxRecDepth 100000
set_option maxHeartbeats 2000000
/-! own rule: C() of a class that has no __init__ of its own -/
namespace L2
open PySem PySem.Spec PyProof.Rows PySem.W L2
structure MkO (K : PySem.W.Frag) (C : Addr) : Prop where
  makes : PySem.W.makesIn K C = true
  init : PySem.W.findIn K (.ref C) "__init__" = some (some (.builtin "object.__init__"))
  top : PySem.W.mroIn K C (.type "object") = some true
  kp : PySem.W.keepIn K (.ref C) = true
def tMakeO (C : Addr) : TE := fun σ H Q => ∀ x dx, H x = none → H dx = none → dx ≠ x → Q (.ref x) (upd (upd H dx (.own x)) x (.ins C dx []))
section
variable {X : Cx} {C : Addr} {x : Str} {p pos : Pos}
theorem run_makeO {pins : List (Addr × Obj)} {σ : St} {H : Hp} {s : Shared} {Q : VK} (M : MkO X.K C) (I : Inv X pins σ H s)
    (h : ∀ x dx, H x = none → H dx = none → dx ≠ x → Q (.ref x) (upd (upd H dx (.own x)) x (.ins C dx []))) :
    wpAny (model X.prog X.w) X.A (call (.ref C) []) (EP X pins σ Q) X.xe s := by
  have hq := h (s.heap.objs.size + 1) s.heap.objs.size (I.hok.fresh (Nat.le_succ _)) (I.hok.fresh (Nat.le_refl _)) (Nat.ne_of_lt (Nat.lt_succ_self _))
  have I2 := Inv.made (C := C) I
  refine wpAny_call (make_map0 I.kIn M.makes M.init (fun self => Looks.of_pure (oi_bind _)) ?_)
  have ho : ((s.heap.push PySem.W.emptyDict).push (PySem.W.instObj C s.heap.objs.size)).get? (s.heap.objs.size + 1) = some (PySem.W.instObj C s.heap.objs.size) := by
    have e := Heap.get?_push_size (s.heap.push PySem.W.emptyDict) (o := PySem.W.instObj C s.heap.objs.size) rfl
    rw [Heap.size_push] at e
    exact e
  have t1 : Looks (model X.prog X.w) ((s.heap.push PySem.W.emptyDict).push (PySem.W.instObj C s.heap.objs.size)) (typeOf (.ref (s.heap.objs.size + 1))) (.ref C) := NwA.type_at ho rfl
  have t2 : Looks (model X.prog X.w) ((s.heap.push PySem.W.emptyDict).push (PySem.W.instObj C s.heap.objs.size)) (isInstance (.ref (s.heap.objs.size + 1)) (.type "object")) true := t1.andThen (looks_mroIn I2.kIn M.top)
  refine codeAny_call_builtin oi_plain entry_oi (@check_slot (model X.prog X.w) _ _ _ "object.__init__" "object" "__init__" (.ref (s.heap.objs.size + 1)) [] [] _ oi_kind oi_split t2 (NwA.oi_args_any _ [] []) ?_)
  rw [oi_run]
  refine wpAny_pure ?_
  exact ⟨rfl, V.ref _, _, I2, rfl, hq⟩
theorem pe_makeO (M : MkO X.K C) (hg : Gl X x) (hm : X.mg x = some (.ref C)) (hdb : (x == ("__debug__" : Str)) = false := by decide) : PE X (.Call (.Name x p) [] [] pos) (tMakeO C) := by
  refine ⟨fun pins s σ H Q I h => ?_⟩
  refine wpAny_Call_Name_kw (ld_glob I hg hm ?_ hdb)
  exact PySem.W.callWith_K0 I.kIn M.kp (run_makeO M I h)
end
end L2

set_option Elab.async false
set_option linter.all false
set_option maxRecDepth 100000
set_option maxHeartbeats 2000000
/-! own rules: min(xs, key=lambda x: ys[x]), ys a tuple, a name of the def; t[::-1], t a tuple -/
namespace Cl
open PySem PySem.Spec PyProof.Rows L2 LamX
theorem tuple_getitem_lookup : typeLookup (Value.type "tuple") (Str.ofString "__getitem__") = pure (some (Value.builtin "tuple.__getitem__")) := rfl
section
variable {prog : Program} {w : World} {A : Around} {E : Value → Shared → Prop} {s : Shared}
theorem seqT {i : Int} {vs : List Value} {u : Value} (h0 : 0 ≤ i) (h : vs[i.toNat]? = some u) : seqIndex? i vs.toArray.size = some i.toNat := by
  have hl := (List.getElem?_eq_some_iff.mp h).1
  unfold seqIndex?
  have e : vs.toArray.size = vs.length := by simp
  rw [e, if_neg (show ¬ i < 0 by omega)]
  show (if (decide (0 ≤ i) && decide (i < (vs.length : Int))) = true then some i.toNat else none) = _
  rw [decide_eq_true h0, decide_eq_true (show i < (vs.length : Int) by omega)]
  rfl
/-- lambda x: y[x], called with an int -/
theorem lam_ixT {f l c' ck : Addr} {q x y : Str} {params : Arguments} {p1 p2 p3 : Pos} {scope : Scope} {cl : List (Str × Addr)} {pm ctv u : Value} {vs : List Value} {i : Int} {t : Tok} {Q : Value → Shared → Prop}
    (S : LSc scope x y) (hd : A.depth < recursionLimit) (hf : s.heap.get? f = some (PySem.W.kla_obj "<lambda>" q params (.Subscript (.Name y p1) (.Name x p2) p3) scope cl pm c' ctv))
    (hbind : ∀ v : Value, bindArgs (PySem.W.kla_fn "<lambda>" q params (.Subscript (.Name y p1) (.Name x p2) p3) scope cl pm (.ref c') ctv) ⟨[v], []⟩ = pure [(x, v)])
    (hcode : ∃ (oc : Obj) (us : Array Value) (tk : Tok), s.heap.get? c' = some oc ∧ oc.data = .fields us ∧ us[1]? = some (.str q tk)) (hlim : s.heap.NoLimit)
    (hck : cl.lookup y = some ck) (hcell : s.heap.IsCell ck (some (.ref l))) (hl : IsTup s.heap l vs.toArray) (h0 : 0 ≤ i) (h1 : i < 2 ^ 63) (hi : vs[i.toNat]? = some u)
    (hdx : (x == ("__debug__" : Str)) = false) (hdy : (y == ("__debug__" : Str)) = false) (hcy : (y == ("__classdict__" : Str)) = false)
    (h : ∀ h' tk, s.toks ≤ tk → (∀ b o, s.heap.get? b = some o → h'.get? b = some o) → Q u { s with heap := h', toks := tk }) : wpAny (model prog w) A (call (.ref f) [.int i t]) Q E s := by
  obtain ⟨oc, us, tq, hoc, hdc, hvc⟩ := hcode
  refine wpAny_call (PySem.W.kla_callFunE hd hf rfl S.co S.gen rfl ⟨c', oc, us, tq, rfl, hoc, hdc, hvc⟩ ?_)
  rw [hbind]
  refine wpAny_pure (wpAny_newFunctionEnv S.nocell (fun z hz => by rw [List.mem_singleton.mp hz]; exact S.px) (fun h₁ hns hsb => ⟨hlim.fresh _ hsb, ?_⟩) S.kind)
  have kp : ∀ b o, s.heap.get? b = some o → h₁.get? b = some o := fun b o e => hsb.extBut b o (Nat.ne_of_lt (Heap.lt_size e)) (Heap.get?_push_of_some _ e)
  refine PySem.W.kla_codeExpr ?_
  refine wpAny_Subscript_Name tuple_getitem_lookup ?_
  refine wpAny_Name (wpAny_loadName_free S.kind S.fy hck (hcell.keeps kp) ?_ hcy) hdy
  refine wpAny_Name (wpAny_loadName_local S.kind S.px hns (v := .int i t) ?_ ?_) hdx
  · simp [List.lookup]
  · have hl' : IsTup h₁ l vs.toArray := hl.keeps kp
    refine ⟨hl'.typeIs, getItem_tuple hl' (by omega) h1 (j := i.toNat) (seqT h0 hi) (by simpa using hi) ?_⟩
    exact h h₁ _ (by show s.toks ≤ s.toks + _; omega) kp
/-- what a lambda x: y[x] is, and what it reads -/
structure LamAtT (h : Heap) (f : Addr) (x y : Str) (q : Str) (params : Arguments) (p1 p2 p3 : Pos) (scope : Scope) (cl : List (Str × Addr)) (pm ctv : Value) (c' ck l : Addr) (us : List Value) : Prop where
  fn : h.get? f = some (PySem.W.kla_obj "<lambda>" q params (.Subscript (.Name y p1) (.Name x p2) p3) scope cl pm c' ctv)
  code : ∃ (oc : Obj) (us : Array Value) (tk : Tok), h.get? c' = some oc ∧ oc.data = .fields us ∧ us[1]? = some (.str q tk)
  lim : h.NoLimit
  hck : cl.lookup y = some ck
  cell : h.IsCell ck (some (.ref l))
  lst : IsTup h l us.toArray
theorem LamAtT.keeps {h h' : Heap} {f : Addr} {x y : Str} {q : Str} {params : Arguments} {p1 p2 p3 : Pos} {scope : Scope} {cl : List (Str × Addr)} {pm ctv : Value} {c' ck l : Addr} {us : List Value}
    (L : LamAtT h f x y q params p1 p2 p3 scope cl pm ctv c' ck l us) (k : ∀ b o, h.get? b = some o → h'.get? b = some o) : LamAtT h' f x y q params p1 p2 p3 scope cl pm ctv c' ck l us :=
  ⟨k _ _ L.fn, let ⟨oc, us, tk, a, b, c⟩ := L.code; ⟨oc, us, tk, k _ _ a, b, c⟩, L.lim.keeps k, L.hck, L.cell.keeps k, L.lst.keeps k⟩
theorem min_lamT {f a l c' ck : Addr} {q x y : Str} {params : Arguments} {p1 p2 p3 : Pos} {scope : Scope} {cl : List (Str × Addr)} {pm ctv : Value} {cs us : List Value} {ns : Nat → Int} {kf : Nat → Int} {Q : Value → Shared → Prop}
    (hh : A.handled = none) (S : LSc scope x y) (hd : A.depth < recursionLimit) (L : LamAtT s.heap f x y q params p1 p2 p3 scope cl pm ctv c' ck l us)
    (hbind : ∀ v : Value, bindArgs (PySem.W.kla_fn "<lambda>" q params (.Subscript (.Name y p1) (.Name x p2) p3) scope cl pm (.ref c') ctv) ⟨[v], []⟩ = pure [(x, v)])
    (hdx : (x == ("__debug__" : Str)) = false) (hdy : (y == ("__debug__" : Str)) = false) (hcy : (y == ("__classdict__" : Str)) = false)
    (ht : s.heap.IsTuple a cs.toArray) (hc : ∀ i, i < cs.length → ∃ t, cs[i]? = some (.int (ns i) t)) (hne : 0 < cs.length)
    (hk : ∀ i, i < cs.length → 0 ≤ ns i ∧ ns i < 2 ^ 63 ∧ ∃ t, us[(ns i).toNat]? = some (.int (kf i) t))
    (h : ∀ v h' tk, cs[argBest (fun i j => decide (kf i < kf j)) (cs.length - 1)]? = some v → (∀ b o, s.heap.get? b = some o → h'.get? b = some o) → Q v { s with heap := h', toks := tk }) :
    wpAny (model prog w) A (call (.builtin "min") [.ref a] [(Str.ofString "key", .ref f)]) Q E s := by
  have hd1 : A.in1.depth < recursionLimit := hd
  refine call_min_walkK (PySem.W.iter_tupleW (A := A.in1) hh ht fun s₂ e2 W st hfp hfr kp2 => ?_)
  have sz2 : s.heap.objs.size < s₂.heap.objs.size := hfp _ List.mem_cons_self
  have old : ∀ {s' : Shared}, Moved [s₂.heap.objs.size, s.heap.objs.size] (fun a b => b = a) s₂ s' → ∀ b o, s.heap.get? b = some o → s'.heap.get? b = some o := fun {s'} m b o e => by
    have lt := Heap.lt_size e
    refine m.heap b o (fun hm => ?_) (kp2 b o e)
    rcases List.mem_cons.mp hm with z | hm
    · rw [z] at lt
      exact Nat.lt_irrefl _ (Nat.lt_trans lt sz2)
    · rw [List.mem_singleton.mp hm] at lt
      exact Nat.lt_irrefl _ lt
  have szc : cs.toArray.size = cs.length := by simp
  refine ⟨s.heap.objs.size, [s.heap.objs.size, a], [s.heap.objs.size], (fun a b => b = a), cs.toArray.size, _, _, fun s' => Moved [s₂.heap.objs.size, s.heap.objs.size] (fun a b => b = a) s₂ s', fun i k _ => ∃ t, k = .int (kf i) t, fun i j => decide (kf i < kf j), rfl, W, st, hfp, by rw [szc]; exact hne, ⟨?_, ?_, ?_, ?_⟩, Moved.refl fun _ => rfl, ?_⟩
  · exact fun s1 s' J m => J.trans (fun _ _ _ h1 h2 => h2.trans h1) m
  · exact fun i k s1 s' v _ => v
  · intro i v s1 o Q' E' hi hP J stI hS cont
    rw [szc] at hi
    obtain ⟨t, ec⟩ := hc i hi
    have ev : v = .int (ns i) t := by
      have hP' : cs[i]? = some v := by simpa using hP
      rw [ec] at hP'
      exact (Option.some.inj hP').symm
    subst ev
    obtain ⟨h0, h1, tk, eu⟩ := hk i hi
    have L1 := L.keeps (old J)
    refine lam_ixT S hd1 L1.fn hbind L1.code L1.lim L1.hck L1.cell L1.lst h0 h1 eu hdx hdy hcy fun h' tk' hle kp => ?_
    exact cont _ _ (J.then_heap hle fun b o _ e => kp b o e) (W.frame _ s1 h' tk' stI hle fun b _ o e => kp b o e) (kp _ _ hS) ⟨_, rfl⟩ fun j k' z => z
  · intro i j ki kj s1 Q' E' J vi vj q
    exact CmpOf.ints_lt (prog := prog) (w := w) (A := A.in1) (P := fun i v => ∃ t, v = .int (kf i) t) kf (fun i v h => h) i j ki kj s1 Q' E' vi vj q
  · intro v s' hP J
    rw [szc] at hP
    have hP' : cs[argBest (fun i j => decide (kf i < kf j)) (cs.length - 1)]? = some v := by simpa using hP
    have e : s' = { s with heap := s'.heap, toks := s'.toks } := by
      obtain ⟨hp, g, d, tk, os⟩ := s'
      subst e2
      have h1 : g = s.gens := J.gens
      have h2 : d = s.drawn := J.drawn
      have h3 : os = s.os := J.os
      subst h1 h2 h3
      rfl
    rw [e]
    exact h v s'.heap s'.toks hP' (old J)
end
section
variable {X : Cx}
def tMinLamT (K : PySem.W.Frag) (T : List (Addr × Str)) (j : Nat) (te : TE) : TE := fun σ H Q => te σ H fun v H1 => ∃ (a l : Addr) (ns ks : List Int), v = .ref a ∧ SqT K H1 a (ns.map V.int) ∧ σ[j]? = some (some (.ref l)) ∧ SqT K H1 l (ks.map V.int) ∧ 0 < ns.length ∧ (∀ n ∈ ns, 0 ≤ n ∧ n < ks.length) ∧
  Tabs T H1 ∧ ∀ (m : Int) (H2 : Hp), ExtN H1 H2 → Tabs T H2 → LeastAt ks ns m → Q (.int m) H2
/-- min(e, key=lambda x: y[x]), y a name of the def that it shares with the lambda -/
theorem pe_minlamT {T : List (Addr × Str)} {c P : Addr} {p p1 p2 p3 lpos kpos pos : Pos} {e : Expr} {te : TE} {x y : Str} {j : Nat} {params : Arguments} {scope : Scope}
    (hg : Gl X "min") (hm : X.mg "min" = none) (he : PE X e te) (hd : X.A.depth < recursionLimit) (hh : X.A.handled = none) (TB : TabB X.base X.mg c P) (hcode : X.env.code = .ref c) (hmT : (P, X.env.qual ++ "<lambda>") ∈ T)
    (hu : ∀ q ∈ T, q.1 = P → q.2 = X.env.qual ++ "<lambda>") (S : LSc scope x y) (hfy : X.env.scope.names.lookup y = some .cell) (hfr : ∀ z ∈ scope.names, z.2 = .free → z.1 = y) (hN : X.N[j]? = some y) (hdef : defaultsOf params X.env = ([], []))
    (hbind : ∀ (q : Str) (cl : List (Str × Addr)) (pm cv ctv v : Value), bindArgs (PySem.W.kla_fn "<lambda>" q params (.Subscript (.Name y p1) (.Name x p2) p3) scope cl pm cv ctv) ⟨[v], []⟩ = pure [(x, v)])
    (hs : starEach [e] X.env = (false, eval e X.env) :: starEach [] X.env := by rfl)
    (hdx : (x == ("__debug__" : Str)) = false := by decide) (hdy : (y == ("__debug__" : Str)) = false := by decide) (hcy : (y == ("__classdict__" : Str)) = false := by decide) :
    PE X (.Call (.Name "min" p) [e] [⟨some "key", .Lambda params (.Subscript (.Name y p1) (.Name x p2) p3) scope lpos, kpos⟩] pos) (tMinLamT X.K T j te) := by
  refine ⟨fun pins s σ H Q I h => ?_⟩
  have hfree : ∀ z ∈ scope.names, z.2 = .free → ∃ c, X.env.cells.lookup z.1 = some c := fun z hz e => I.ok.has _ (.inl (by rw [hfr z hz e]; exact hfy))
  refine wpAny_Call_Name_kw (ld_blt I hg hm (u := .builtin "min") (by decide +kernel) ?_)
  refine PyProof.Rows.callWith_kw ?_ (by rw [hs]; rfl) (by rw [hs]; rfl) (by rfl) (by rfl)
  rw [hs]
  show wpAny _ _ (spliced ((false, eval e X.env) :: backTo pos (starEach [] X.env))) _ _ s
  refine Calls.spliced_cons (thn (he.run pins s σ H _ I h) fun u s1 ⟨v, H1, I1, r1, a, l, ns, ks, ev, ht, hσ, hl, hne, hin, hT, q⟩ => Calls.spliced_nil ?_)
  subst ev
  obtain rfl : u = Value.ref a := r1
  show wpAny _ _ (evalAll ((do let v ← eval (.Lambda params (.Subscript (.Name y p1) (.Name x p2) p3) scope lpos) X.env; standAt pos; pure v) :: [])) _ _ s1
  refine wpAny_evalAll_cons (wpAny_bind (lam_make2 I1 TB hcode hmT hu hT hdef hfree fun f c' pm ctv H2 s2 I2 eN T2 hf hfn hff hco => wpAny_bind (wpAny_standAt (wpAny_pure (wpAny_evalAll_nil ?_)))))
  show wpAny _ _ (call (.builtin "min") [.ref a] [(Str.ofString "key", .ref f)]) _ _ s2
  obtain ⟨cs, rc, tc, _⟩ := I2.tuple (eN.sqT ht)
  obtain ⟨us, ru, pl, hz2⟩ := I2.tuple (eN.sqT hl)
  obtain ⟨m, _, look⟩ := I2.loc
  obtain ⟨u0, r0, lk⟩ := look j y _ hN hσ (.inr (.inl hfy))
  obtain rfl : u0 = Value.ref l := r0
  have cellAt : ∃ ck, X.env.cells.lookup y = some ck ∧ s2.heap.IsCell ck (some (.ref l)) := by
    rcases lk with ⟨k, _⟩ | ⟨_, ck, e1, e2⟩
    · rw [show X.env.kindOf y = some .cell from hfy] at k
      cases k
    · exact ⟨ck, e1, e2⟩
  obtain ⟨ck, eck, hcell⟩ := cellAt
  obtain ⟨⟨oc, vs, tk, o1, o2, o3⟩, _, _⟩ := I2.hok c' _ hco
  have lc : cs.length = ns.length := by rw [← rc.length, List.length_map]
  have lu : us.length = ks.length := by rw [← ru.length, List.length_map]
  have nsAt : ∀ i, i < ns.length → ∃ t, cs[i]? = some (.int (ns.getD i 0) t) := fun i hi => by
    obtain ⟨z, ez, rz⟩ := rc.get (i := i) (x := V.int (ns.getD i 0)) (by rw [List.getElem?_map, List.getD_eq_getElem?_getD, List.getElem?_eq_getElem hi]; rfl)
    obtain ⟨t, rfl⟩ := rz
    exact ⟨t, ez⟩
  refine min_lamT (ns := fun i => ns.getD i 0) (kf := fun i => ks.getD (ns.getD i 0).toNat 0) hh S hd ⟨hf, ⟨oc, vs, tk, o1, o2, o3⟩, I2.nolimit, NdefX.clo_has hfree (PySem.mem_of_lookup S.fy) eck, hcell, pl⟩ (fun v => hbind _ _ _ _ _ v) hdx hdy hcy tc (fun i hi => nsAt i (by omega)) (by omega)
    (fun i hi => ?_) fun v h' tk2 hv kp => ?_
  · have hi' : i < ns.length := by omega
    have hmem : ns.getD i 0 ∈ ns := by rw [List.getD_eq_getElem?_getD, List.getElem?_eq_getElem hi']; exact List.getElem_mem hi'
    obtain ⟨b0, b1⟩ := hin _ hmem
    have hs63 := line63
    rw [List.length_map] at hz2
    have hk' : (ns.getD i 0).toNat < ks.length := by omega
    obtain ⟨z, ez, rz⟩ := ru.get (i := (ns.getD i 0).toNat) (x := V.int (ks.getD (ns.getD i 0).toNat 0)) (by rw [List.getElem?_map, List.getD_eq_getElem?_getD (l := ks), List.getElem?_eq_getElem hk']; rfl)
    obtain ⟨t, rfl⟩ := rz
    exact ⟨b0, by omega, t, ez⟩
  · obtain ⟨n, en⟩ : ∃ n, ns.length = n + 1 := ⟨ns.length - 1, by omega⟩
    have fl := best_is (fun i => ks.getD (ns.getD i 0).toNat 0) n
    rw [← en] at fl
    rw [lc, show ns.length - 1 = n by omega] at hv
    obtain ⟨t, et⟩ := nsAt _ fl.1
    rw [et] at hv
    cases hv
    exact ⟨.int _, H2, I2.kept kp, ⟨t, rfl⟩, q _ H2 eN T2 ⟨_, fl, rfl⟩⟩
end
end Cl
namespace L2
open PySem PySem.Spec PyProof.Rows L2
section
variable {prog : Program} {w : World} {A : Around} {E : Value → Shared → Prop} {s : Shared}
theorem pick_rev (items : Array Value) : (List.filterMap (fun (k : Nat) => items[((items.size : Int) - 1 + ↑k * -1).toNat]?) (List.range items.size)) = items.toList.reverse := by
  obtain ⟨l⟩ := items
  simp only [List.size_toArray, List.getElem?_toArray]
  have h : ∀ m, m ≤ l.length → List.filterMap (fun (k : Nat) => l[((l.length : Int) - 1 + ↑k * -1).toNat]?) (List.range m) = (l.drop (l.length - m)).reverse := by
    intro m
    induction m with
    | zero => intro _; simp
    | succ m ih =>
      intro hm
      rw [List.range_succ, List.filterMap_append, ih (by omega)]
      have hi : l.length - (m + 1) < l.length := by omega
      have e1 : List.filterMap (fun (k : Nat) => l[((l.length : Int) - 1 + ↑k * -1).toNat]?) [m] = [l[l.length - (m + 1)]] := by
        rw [List.filterMap_cons]
        rw [show (((l.length : Int) - 1 + ((m : Nat) : Int) * -1).toNat) = l.length - (m + 1) by omega, List.getElem?_eq_getElem hi]
        rfl
      have e2 : l.drop (l.length - (m + 1)) = l[l.length - (m + 1)] :: l.drop (l.length - m) := by
        rw [List.drop_eq_getElem_cons hi, show l.length - (m + 1) + 1 = l.length - m by omega]
      rw [e1, e2, List.reverse_cons]
  rw [h _ (Nat.le_refl _), Nat.sub_self, List.drop_zero]
theorem sliceApplied_rev {sl : Addr} {t : Tok} {n : Nat} {Q : Int × Int × Nat → Shared → Prop} (h : s.heap.IsSliceOf sl .none .none (.int (-1) t)) (q : Q ((n : Int) - 1, -1, n) s) :
    wpAny (model prog w) A (Builtin.Slice.sliceApplied (.ref sl) (pure ↑n)) Q E s := by
  obtain ⟨o, h1, h2, h3⟩ := h
  unfold Builtin.Slice.sliceApplied
  refine wpAny_bind ?_
  unfold Builtin.Slice.sliceFields
  refine wpAny_bind (wpAny_field h1 h3 (by rfl) ?_)
  refine wpAny_bind (wpAny_field h1 h3 (by rfl) ?_)
  refine wpAny_bind (wpAny_field h1 h3 (by rfl) ?_)
  refine wpAny_pure ?_
  refine wpAny_bind (slicePart_int ?_)
  show wpAny _ _ (if ((-1 : Int) == 0) = true then _ else _) _ _ _
  rw [if_neg (by decide)]
  refine wpAny_bind (slicePart_none ?_)
  refine wpAny_bind (slicePart_none ?_)
  refine wpAny_bind (wpAny_pure ?_)
  have e : Builtin.Slice.sliceAdjust none none (-1) (n : Int) = ((n : Int) - 1, -1) := rfl
  show wpAny _ _ (match Builtin.Slice.sliceAdjust none none (-1) (n : Int) with | (lo, hi) => pure (lo, -1, Builtin.Slice.slicePlaces lo hi (-1))) _ _ _
  rw [e]
  refine wpAny_pure ?_
  have e2 : Builtin.Slice.slicePlaces ((n : Int) - 1) (-1) (-1) = n := by
    unfold Builtin.Slice.slicePlaces
    rw [if_neg (by decide)]
    by_cases h0 : n = 0
    · subst h0
      rfl
    · rw [if_pos (by omega)]
      show (((n : Int) - 1 - -1 - 1) / 1 + 1).toNat = n
      omega
  rw [e2]
  exact q
theorem getItem_tuple_rev {t sl : Addr} {items : Array Value} {tk : Tok} {Q : Value → Shared → Prop} (ht : IsTup s.heap t items) (hs : s.heap.IsSliceOf sl .none .none (.int (-1) tk)) (hz : items.size ≤ sizeLine)
    (q : Q (.ref s.heap.objs.size) { s with heap := s.heap.push { cls := .type "tuple", data := .seq items.toList.reverse.toArray } }) : wpAny (model prog w) A (getItem (.ref t) (.ref sl)) Q E s := by
  unfold getItem
  refine wpAny_holding ?_
  refine wpAny_bind (wpAny_sequenceKey ht.typeIs (by decide) ?_)
  refine wpAny_bind (wpAny_callSpecial?_slot ht.typeIs slot_tuple_getitem (wpAny_call_entry slot_tuple_getitem ht.typeIs entry_tuple_getitem ?_ (args_tuple_getitem _ _)))
  unfold Builtin.«tuple.__getitem__»
  show wpAny _ _ (do
      let xs ← Builtin.Tuple.tupleItemsOf (.ref t)
      _) _ _ _
  refine wpAny_bind (tupleItemsOf_ ht ?_)
  obtain ⟨o, h1, h2, h3⟩ := id hs
  refine wpAny_bind (wpAny_typeOf (T := "slice") ⟨_, h1, h2⟩ ?_)
  rw [if_pos (by decide)]
  refine wpAny_bind (sliceApplied_rev hs ?_)
  show wpAny _ _ (if (((items.size : Int) - 1) == 0 && ((-1 : Int) == 1) && items.size == items.size) = true then _ else _) _ _ _
  rw [if_neg (by simp)]
  refine wpAny_bind ?_
  unfold Builtin.Tuple.tupleExact
  refine wpAny_newObj_type ?_ ?_
  · rw [pick_rev]
    refine wpAny_pure ⟨_, rfl, ?_⟩
    exact wpAny_pure q
  · show sizeOk (.seq _)
    rw [pick_rev]
    show (items.toList.reverse.toArray).size ≤ sizeLine
    simpa using hz
end
section
variable {X : Cx}
/-- t[::-1], t a tuple -/
def tRevT (K : PySem.W.Frag) (te ts : TE) : TE := fun σ H Q => te σ H fun x H1 => ts σ H1 fun y H2 => y = .int (-1) ∧ ∃ a xs, x = .ref a ∧ SqT K H2 a xs ∧ ∀ (p : Addr) (H' : Hp), Same H2 H' → H' p = some (.tup xs.reverse) → Q (.ref p) H'
theorem pe_revT {e st : Expr} {p3 pos : Pos} {te ts : TE} (he : PE X e te) (hs : PE X st ts) : PE X (.Subscript e (.Slice none none (some st) p3) pos) (tRevT X.K te ts) := by
  refine ⟨fun pins s σ H Q I h => ?_⟩
  refine Subscript_ (thn (he.run pins s σ H _ I h) fun v s1 ⟨x, H1, I1, r1, h1⟩ => ?_)
  refine wpAny_Slice ?_
  rw [evalPart_none]
  refine wpAny_pure (wpAny_pure ?_)
  show wpAny _ _ (eval st X.env) _ _ s1
  refine thn (hs.run pins s1 σ H1 _ I1 h1) fun u s2 ⟨y, H2, I2, r2, ey, a, xs, ex, ht, q⟩ => ?_
  subst ey
  subst ex
  obtain ⟨tk, rfl⟩ := r2
  obtain rfl : v = Value.ref a := r1
  have I3 := I2.kept (t' := s2.toks) (h' := s2.heap.push { cls := .type "slice", data := .fields #[.none, .none, .int (-1) tk] }) fun b o e => Heap.get?_push_of_some _ e
  obtain ⟨its, rv, tt, hz⟩ := I3.tuple ht
  have hl := rv.length
  refine tail_any (T := "tuple") tt.typeIs rfl ?_ rfl
  refine getItem_tuple_rev tt (Heap.IsSliceOf.new _ _ _ _) (by simp only [List.size_toArray]; omega) ?_
  generalize s2.heap.push { cls := .type "slice", data := .fields #[.none, .none, .int (-1) tk] } = h3 at I3 tt
  have hn := I3.hok.fresh (Nat.le_refl h3.objs.size)
  exact ⟨.ref h3.objs.size, _, I3.laid (t' := s2.toks) (fun b o e => Heap.get?_push_of_some _ e) (Nat.le_refl _) (show ObjOk X.prog X.w _ _ _ (.tup xs.reverse) from ⟨by rw [List.length_reverse]; exact hz, its.reverse, rv.reverse, IsTup.new _ _⟩), rfl, q _ _ (fun b o e => by rw [upd_ne (ne_of_none e hn)]; exact e) upd_same⟩
end
end L2
namespace Tw
open PySem PySem.Spec PyProof.Rows L2 PySem.W
section
variable {X : Cx} {CX : CXT} {k : Nat} {f C D : Addr} {fd : FuncData} {ps : List Str} {sp : Sp} {E : XK}
theorem op_notIn_own (hd : Dn X.K C "__contains__" f) (F : FnOk X.prog X.w X.K X.mg X.base CX k f fd ps sp) (hr : Room k X.A) (hb : Binds X.K fd ps []) (hx : Passes CX X E) : OpR X (compareOp .NotIn) (rIn C sp E true) := by
  intro pins s σ H x y v u Q I rx ry ⟨a, dx, fs, ey, ha, q⟩
  subst ey
  obtain rfl : u = Value.ref a := ry
  obtain ⟨mA, O, rr, _, _, _⟩ := ins_get I.hok ha
  obtain ⟨od, J, hl⟩ := O.look
  obtain ⟨m0, hF⟩ := I.fr
  refine PySem.W.notIn_K hF I.ok.mod.kin J hd.at_ hd.fn (thn (run_sub F ⟨hr, rfl⟩ hb hx I (.cons (relR a) (.cons rx .nil)) q) fun r s' ⟨z, H', I', rz, b, ez, q'⟩ => ?_)
  subst ez
  obtain rfl : r = Value.bool b := rz
  exact wpAny_truthy_bool ⟨_, _, I', relB (!b), q'⟩
end
end Tw

set_option Elab.async false
set_option linter.all false
set_option maxRecDepth 100000
set_option maxHeartbeats 4000000
/-! len of a set; min of a tuple of ints -/
namespace L2
open PySem PySem.Spec PyProof.Rows PySem.W
section
variable {X : Cx}
def rLenSet (w : World) : List V → Hp → VK → Prop := fun xs H Q => ∃ (a : Addr) (S : Int → Bool) (n : Nat), xs = [V.ref a] ∧ H a = some (SetO w a S n) ∧ ∀ ks : List Int, ks.Nodup → (∀ k, S k = true ↔ k ∈ ks) → ks.length = n → Q (.int (n : Nat)) H
theorem cr_lenSet : CallR X (.builtin "len") (rLenSet X.w) := by
  intro pins s σ H xs us Q I r h
  obtain ⟨a, S, n, rfl, e, q⟩ := h
  rw [Vals.ref1 r]
  have ok := I.hok a _ e
  unfold SetO ObjOk at ok
  obtain ⟨⟨o, es, ep, t, h1, h2, h3, h4, h5, h6, h7, h8, h9, _, _⟩, _, _⟩ := ok
  have hb : (es.size : Int) < 2 ^ 63 := by
    have : scanBound ≤ 1048576 := by unfold scanBound; decide
    omega
  refine call_len_set h1 h2 h3 h8 hb ?_
  subst h9
  exact ⟨.int (es.size : Nat), H, I.kept (fun _ _ e => e), ⟨_, rfl⟩, q _ h5 h6 (by rw [List.length_map, Array.length_toList])⟩
theorem reads_int1 {h : Heap} {k m : Int} {t : Tok} {as : List Addr} (r : Reads h (.int k t) (.int m) as) : k = m := by
  cases r
  rfl
theorem readsAll_ints {h : Heap} : ∀ {ns : List Int} {us : List Value}, Vals (ns.map V.int) us → ∃ as, ReadsAll h us (ns.map PyData.int) as
  | [], _, .nil => ⟨_, .nil⟩
  | n :: ns, _, .cons r v => by
    obtain ⟨t, rfl⟩ := r
    obtain ⟨as, ra⟩ := readsAll_ints v
    exact ⟨_, .cons (.int n t) ra⟩
theorem depth_ints0 : ∀ ns : List Int, PyData.depthAll (ns.map PyData.int) ≤ 1
  | [] => by simp [PyData.depthAll]
  | a :: l => by
    have := depth_ints0 l
    rw [List.map_cons, PyData.depthAll]
    simp only [PyData.depth]
    omega
theorem fmin_le : ∀ (l : List Int) (a : Int), l.foldl min a ≤ a ∧ ∀ z ∈ l, l.foldl min a ≤ z
  | [], a => ⟨Int.le_refl _, fun z hz => nomatch hz⟩
  | b :: l, a => by
    obtain ⟨h1, h2⟩ := fmin_le l (min a b)
    rw [List.foldl_cons]
    refine ⟨by omega, fun z hz => ?_⟩
    rcases List.mem_cons.mp hz with rfl | hz
    · omega
    · exact h2 z hz
def rMinTu (K : PySem.W.Frag) : List V → Hp → VK → Prop := fun vs H Q => ∃ (a : Addr) (ns : List Int), vs = [V.ref a] ∧ SqT K H a (ns.map V.int) ∧ ns ≠ [] ∧ ∀ m : Int, m ∈ ns → (∀ z ∈ ns, m ≤ z) → Q (.int m) H
theorem cr_minTu (hh : X.A.handled = none) (hu : X.A.units + 65 < cLine) : CallR X (.builtin "min") (rMinTu X.K) := by
  intro pins s σ H vs us Q I r h
  obtain ⟨a, ns, rfl, hs, hne, q⟩ := h
  obtain ⟨its, rv, tc, hz⟩ := I.tuple hs
  rw [Vals.ref1 r]
  obtain ⟨n, l, rfl⟩ : ∃ n l, ns = n :: l := by
    cases ns with
    | nil => exact absurd rfl hne
    | cons n l => exact ⟨n, l, rfl⟩
  obtain ⟨as, ra⟩ := readsAll_ints (h := s.heap) rv
  refine min_tuple_data (x := .int n) (xs := l.map PyData.int) hh tc (by simpa using ra) ⟨?_, ?_⟩ ?_ fun i v h' tk cs hv hr kp => ?_
  · intro x hx y hy
    rw [← List.map_cons] at hx hy
    obtain ⟨b1, _, rfl⟩ := List.mem_map.mp hx
    obtain ⟨b2, _, rfl⟩ := List.mem_map.mp hy
    simp [alike]
  · intro x hx
    rw [← List.map_cons] at hx
    obtain ⟨b1, _, rfl⟩ := List.mem_map.mp hx
    intro z
    cases z
  · have := depth_ints0 (n :: l)
    rw [List.map_cons] at this
    omega
  · have hv' : its[i]? = some v := by simpa using hv
    have hl := rv.length
    have hi : i < (n :: l).length := by
      rw [List.length_map] at hl
      rw [hl]
      exact (List.getElem?_eq_some_iff.mp hv').1
    obtain ⟨z, ez, rz⟩ := rv.get (i := i) (x := V.int (n :: l)[i]) (by rw [List.getElem?_map, List.getElem?_eq_getElem hi]; rfl)
    rw [hv'] at ez
    cases ez
    obtain ⟨t, rfl⟩ := rz
    rw [minD_ints] at hr
    obtain ⟨h1, h2⟩ := fmin_le l n
    have e : (n :: l)[i] = l.foldl min n := reads_int1 hr
    exact ⟨.int _, H, I.kept kp, ⟨t, rfl⟩, q _ (List.getElem_mem hi) fun z hz => by
      rw [e]
      rcases List.mem_cons.mp hz with rfl | hz
      · exact h1
      · exact h2 z hz⟩
end
end L2

set_option Elab.async false
set_option linter.all false
set_option maxRecDepth 100000
set_option maxHeartbeats 2000000
/-! own rules: slices of tuples that are known to have no dict; t.index(text) -/
namespace L2
open PySem PySem.Spec PyProof.Rows L2
section
variable {X : Cx}
def rSlF (K : PySem.W.Frag) : V → Option Int → Option Int → Hp → VK → Prop := fun x lo hi H Q => ∃ a xs, x = .ref a ∧ SqT K H a xs ∧
  ¬ (HT.sIx xs.length 0 lo = 0 ∧ HT.sIx xs.length xs.length hi = xs.length) ∧ ∀ p o, H p = none → o.dict = none → Q (.ref p) (upd H p (.frz o (.tup (cutV xs lo hi))))
theorem sl_tupF : SlR X (rSlF X.K) := by
  intro pins s σ H x v vl vu lo hi sl Q I rx hs pl pu h
  obtain ⟨a, xs, rfl, hx, hw, q⟩ := h
  cases rx
  obtain ⟨its, r, ht, hz⟩ := I.tuple hx
  have hlen : its.toArray.size = xs.length := by rw [List.size_toArray]; exact r.length.symm
  refine ⟨"tuple", _, PyProof.Rows.slot_tuple_getitem.lookup, ht.typeIs, ?_⟩
  refine HT.getItem_tuple_cut ht hs pl pu (by rw [hlen]; exact hw) ?_ (by rw [hlen]; exact hz)
  rw [hlen]
  have hv := (r.drop (HT.sIx xs.length 0 lo)).take (HT.sIx xs.length xs.length hi - HT.sIx xs.length 0 lo)
  refine ⟨.ref s.heap.objs.size, _, I.laid (t' := s.toks) (o := .frz { cls := .type "tuple", data := .seq (((its.drop (HT.sIx xs.length 0 lo)).take (HT.sIx xs.length xs.length hi - HT.sIx xs.length 0 lo)).toArray) } (.tup (cutV xs lo hi))) (fun b ob q => Heap.get?_push_of_some _ q) (Nat.le_refl _) ?_, rfl, q _ _ (I.hok.fresh (Nat.le_refl _)) rfl⟩
  exact ⟨Heap.get?_push_size _ rfl, Nat.le_trans (cutV_length xs lo hi) hz, _, hv, IsTup.new _ _⟩
/-- t.index(x), texts, x there -/
def rIndexS (K : PySem.W.Frag) : V → List V → Hp → VK → Prop := fun x vs H Q => ∃ (a : Addr) (ns : List Str) (k : Str) (j : Nat), x = .ref a ∧ vs = [.str k] ∧ SqT K H a (ns.map V.str) ∧ (∀ z ∈ ns, (PyData.str z).canLay0 = true) ∧ ns[j]? = some k ∧ (∀ m, m < j → ns[m]? ≠ some k) ∧ Q (.int (j : Nat)) H
theorem dpAll_strs (K : PySem.W.Frag) (H : Hp) : ∀ ns : List Str, DpAll K H (ns.map V.str) (ns.map PyData.str)
  | [] => .nil
  | n :: ns => .cons (.str n) (dpAll_strs K H ns)
theorem lay_strs : ∀ ns : List Str, (∀ z ∈ ns, (PyData.str z).canLay0 = true) → PyData.canLayAll0 (ns.map PyData.str) = true
  | [], _ => rfl
  | n :: ns, h => by
    rw [List.map_cons, PyData.canLayAll0, lay_strs ns (fun z hz => h z (List.mem_cons_of_mem _ hz)), h n List.mem_cons_self]
    rfl
theorem str_beq (a b : Str) : PyData.eqv (.str a) (.str b) = (a == b) := rfl
theorem mt_indexTS (hu : X.A.units + 65 < cLine) : MtR X "tuple.index" (rIndexS X.K) := by
  intro pins s σ H x xs v us Q I rx rxs h
  obtain ⟨a, ns, k, j, rfl, rfl, hl, hlay, hj, hno, q⟩ := h
  cases rx
  cases rxs with
  | cons ry rt =>
    rename_i uy ut
    cases rt
    obtain ⟨its, rv, pl, hlen⟩ := I.tuple hl
    obtain ⟨as, h4⟩ := Dp.readsAll I (ns.map PyData.str) _ its (dpAll_strs _ _ ns) rv
    obtain ⟨bs, r1⟩ := Dp.reads I (.str k) _ uy (.str k) ry
    have hjl := (List.getElem?_eq_some_iff.mp hj).1
    have hvl := rv.length
    rw [List.length_map] at hvl hlen
    obtain ⟨⟨cls, dd, data, sl⟩, ho, hc, n, hd'⟩ := id pl
    simp only at hc hd'
    subst hc hd'
    have hxs : PyData.canLayAll0 (ns.map PyData.str) = true := lay_strs ns hlay
    have hmap : its.map (SeqAt.readOf s.heap) = ns.map PyData.str := SeqAt.readsAll_map _ its as hxs h4
    have at_ : ∀ (m : Nat) (hm : m < its.toArray.size) (z : Str), ns[m]? = some z → SeqAt.readOf s.heap its.toArray[m] = .str z := by
      intro m hm z hz
      have hml : m < its.length := by simpa using hm
      have e1 : (its.map (SeqAt.readOf s.heap))[m]? = some (.str z) := by rw [hmap, List.getElem?_map, hz]; rfl
      rw [List.getElem?_map, List.getElem?_eq_getElem hml] at e1
      have e2 : SeqAt.readOf s.heap its[m] = .str z := Option.some.inj e1
      simpa using e2
    have hj2 : j < its.toArray.size := by simp only [List.size_toArray]; omega
    refine call_meets F.slot_tuple_index ⟨_, ho, rfl⟩ F.entry_tuple_index (F.args_tuple_index_2 _ _)
      (TI.tuple_indexAt a its.toArray n dd sl uy (fun u => PyData.eqv (SeqAt.readOf s.heap u) (.str k)) j hj2 ?_ ?_) ⟨ho, SeqAt.items_eqAt (vs := its.toArray) (show ReadsAll s.heap its.toArray.toList (ns.map PyData.str) as from h4) r1 hxs (hlay k (List.mem_of_getElem? hj)) (Nat.lt_of_le_of_lt (Nat.add_le_add_left (Nat.min_le_right _ _) _) (by simp only [PyData.depth]; omega)), ?_⟩
    · show PyData.eqv (SeqAt.readOf s.heap its.toArray[j]) (.str k) = true
      rw [at_ j hj2 k hj]
      show (k == k) = true
      exact beq_self_eq_true k
    · intro m hm hmj
      have hmn : m < ns.length := by simp only [List.size_toArray] at hm; omega
      have hz : ns[m]? = some ns[m] := List.getElem?_eq_getElem hmn
      show PyData.eqv (SeqAt.readOf s.heap its.toArray[m]) (.str k) = false
      rw [at_ m hm _ hz]
      show (ns[m] == k) = false
      exact beq_eq_false_iff_ne.mpr fun z => hno m hmj (by rw [hz, z])
    · exact ⟨.int (j : Nat), H, I.tok _, ⟨_, rfl⟩, q⟩
end
theorem sameUp {H : Hp} {p : Addr} {o : HO} (np : H p = none) : Same H (upd H p o) := fun b u e => by
  rw [upd_ne (fun z => by rw [z, np] at e; cases e)]
  exact e
def rListK (K : PySem.W.Frag) : List V → Hp → VK → Prop := fun xs H Q => ∃ p ys, xs = [.ref p] ∧ (SqL K H p ys ∨ SqT K H p ys) ∧ ∀ l, H l = none → Q (.ref l) (upd H l (.lst ys))
theorem call_listK {X : Cx} : CallR X (.type "list") (rListK X.K) := call_list_of
def rTupK (K : PySem.W.Frag) : List V → Hp → VK → Prop := fun xs H Q => ∃ p ys, xs = [.ref p] ∧ ((SqL K H p ys ∧ ∀ l, H l = none → Q (.ref l) (upd H l (.tup ys))) ∨ (SqT K H p ys ∧ Q (.ref p) H))
theorem call_tupleK {X : Cx} : CallR X (.type "tuple") (rTupK X.K) := call_tuple_of
def tTruL (K : PySem.W.Frag) (ta : TE) : L2.TT := fun σ H Q => ta σ H fun x H' => ∃ k, TruV K x H' k ∧ Q k H'
theorem pt_truL {X : Cx} {K : PySem.W.Frag} {a : Expr} {ta : TE} (hK : X.K = K) (ha : PE X a ta) (he : ∀ whole, isTrue a X.env whole = (do let v ← whole; standAt a.pos; holding [v] (truthy v))) : PT X a (tTruL K ta) := by
  subst hK
  exact pt_truth ha he
/-! slices and sums of tuples, whichever object comes of them -/
theorem SqT.whole {xs : List V} {lo hi : Option Int} (h : HT.sIx xs.length 0 lo = 0 ∧ HT.sIx xs.length xs.length hi = xs.length) : cutV xs lo hi = xs := by
  unfold cutV
  rw [h.1, h.2, List.drop_zero, Nat.sub_zero, List.take_length]
theorem slA {K : PySem.W.Frag} {H : Hp} {a : Addr} {xs : List V} {lo hi : Option Int} {Q : VK} (ha : SqT K H a xs) (q : ∀ (H' : Hp) (p : Addr), Same H H' → SqT K H' p (cutV xs lo hi) → Q (.ref p) H') : rSlA K (.ref a) lo hi H Q :=
  ⟨a, xs, rfl, ha, fun h => q H a (Same.refl _) (by rw [SqT.whole h]; exact ha), fun _ p np => q _ p (sameUp np) (SqT.of upd_same)⟩
/-- the same, the new tuple standing by itself where the old one does -/
theorem slA' {K : PySem.W.Frag} {H : Hp} {a : Addr} {xs : List V} {lo hi : Option Int} {Q : VK} (ha : H a = some (.tup xs)) (q : ∀ (H' : Hp) (p : Addr), Same H H' → H' p = some (.tup (cutV xs lo hi)) → Q (.ref p) H') : rSlA K (.ref a) lo hi H Q :=
  ⟨a, xs, rfl, SqT.of ha, fun h => q H a (Same.refl _) (by rw [SqT.whole h]; exact ha), fun _ p np => q _ p (sameUp np) upd_same⟩
theorem catA {K : PySem.W.Frag} {H : Hp} {a b : Addr} {xs ys : List V} {Q : VK} (ha : SqT K H a xs) (hb : SqT K H b ys) (hl : xs.length + ys.length ≤ sizeLine) (q : ∀ (H' : Hp) (p : Addr), Same H H' → SqT K H' p (xs ++ ys) → Q (.ref p) H') : rCatA K (.ref a) (.ref b) H Q :=
  ⟨a, b, xs, ys, rfl, rfl, ha, hb, hl, fun h => q H b (Same.refl _) (by rw [h]; exact hb), fun _ h => q H a (Same.refl _) (by rw [h, List.append_nil]; exact ha), fun _ _ p np => q _ p (sameUp np) (SqT.of upd_same)⟩
theorem catA' {K : PySem.W.Frag} {H : Hp} {a b : Addr} {xs ys : List V} {Q : VK} (ha : H a = some (.tup xs)) (hb : H b = some (.tup ys)) (hl : xs.length + ys.length ≤ sizeLine) (q : ∀ (H' : Hp) (p : Addr), Same H H' → H' p = some (.tup (xs ++ ys)) → Q (.ref p) H') : rCatA K (.ref a) (.ref b) H Q :=
  ⟨a, b, xs, ys, rfl, rfl, SqT.of ha, SqT.of hb, hl, fun h => q H b (Same.refl _) (by rw [h]; exact hb), fun _ h => q H a (Same.refl _) (by rw [h, List.append_nil]; exact ha), fun _ _ p np => q _ p (sameUp np) upd_same⟩
theorem sIx_m1 {n : Nat} (d : Nat) (h : 1 ≤ n) : HT.sIx n d (some (-1)) = n - 1 := by
  unfold HT.sIx
  simp
  omega
theorem cutv_to (xs : List V) (k : Nat) : cutV xs none (some (k : Int)) = xs.take k := by
  unfold cutV
  rw [HT.sIx_none, HT.sIx_nat, List.drop_zero, Nat.sub_zero]
  by_cases h : k ≤ xs.length
  · rw [Nat.min_eq_left h]
  · rw [Nat.min_eq_right (by omega), List.take_length, List.take_of_length_le (by omega)]
theorem cutv_from (xs : List V) (k : Nat) : cutV xs (some (k : Int)) none = xs.drop k := by
  unfold cutV
  rw [HT.sIx_none, HT.sIx_nat]
  by_cases h : k ≤ xs.length
  · rw [Nat.min_eq_left h, List.take_of_length_le (by rw [List.length_drop]; omega)]
  · rw [Nat.min_eq_right (by omega), Nat.sub_self, List.take_zero, List.drop_eq_nil_of_le (by omega)]
theorem cutv_init {xs : List V} (h : 1 ≤ xs.length) : cutV xs none (some (-1)) = xs.dropLast := by
  unfold cutV
  rw [HT.sIx_none, sIx_m1 _ h, List.drop_zero, Nat.sub_zero, List.dropLast_eq_take]
theorem not_whole_init {n : Nat} (h : 1 ≤ n) : ¬ (HT.sIx n 0 none = 0 ∧ HT.sIx n n (some (-1)) = n) := by
  rw [sIx_m1 _ h]
  omega
theorem atV_last {α : Type} (f : α → V) (d : α) {xs : List α} (h : 1 ≤ xs.length) : atI (xs.map f) (-1) = some (f (xs.getLastD d)) := by
  unfold atI ixN
  rw [if_neg (by omega), if_pos (by rw [List.length_map]; omega), List.length_map, show ((-1 : Int) + (xs.length : Nat)).toNat = xs.length - 1 by omega]
  show (xs.map f)[xs.length - 1]? = _
  rw [List.getElem?_map, List.getElem?_eq_getElem (by omega), List.getLastD_eq_getLast?, List.getLast?_eq_getElem?, List.getElem?_eq_getElem (by omega)]
  rfl
theorem atV_nat {α : Type} (f : α → V) (d : α) {xs : List α} {i : Nat} (h : i < xs.length) : atI (xs.map f) (i : Int) = some (f (xs.getD i d)) := by
  refine atI_nat ?_
  rw [List.getElem?_map, List.getElem?_eq_getElem h, List.getD_eq_getElem?_getD, List.getElem?_eq_getElem h]
  rfl
end L2

set_option Elab.async false
set_option linter.all false
set_option maxRecDepth 100000
set_option maxHeartbeats 2000000
/-! own rules: a method without arguments that may raise, in a try; a field as a place of a tuple's target -/
namespace L2
open PySem PySem.Spec PyProof.Rows L2
section
variable {X : Cx} {CX : CXT} {k : Nat} {f C : Addr} {fd : FuncData} {ps : List Str} {sp : Sp} {E : St → XK} {x m : Str} {p pos apos : Pos} {e o : Expr} {es : List Expr} {ta : TE} {t : TA}
def tMethS0 (C : Addr) (m : Str) (sp : Sp) (E : St → XK) (ta : TE) : TE := fun σ H Q => ta σ H fun x H1 => ∃ a dx fs, x = .ref a ∧ H1 a = some (.ins C dx fs) ∧ fs.lookup m = none ∧ sp [.ref a] H1 Q (E σ)
theorem pe_methS0 {pl : Sem Bool} (he : PE X o ta) (c : Cls X.K C) (hm : Meth X.K C m f) (F : FnOk X.prog X.w X.K X.mg X.base CX k f fd ps sp) (hr : Room k X.A) (hb : Binds X.K fd ps []) (hx : ∀ σ, PassesAt CX X σ (E σ))
    (ht : eval (.Call (.Attribute o m apos) [] [] pos) X.env = (do
      let ov ← eval o X.env
      standAt apos.atName
      let (f, first) ← holding [ov] (getMethod ov m pl)
      callWith pos f first (backTo pos (starEach [] X.env)) (backToKw pos (keywordEach [] X.env))) := by rfl) :
    PE X (.Call (.Attribute o m apos) [] [] pos) (tMethS0 C m sp E ta) := by
  refine ⟨fun pins s σ H Q I h => ?_⟩
  refine PySem.W.methodCall_KW (pl := pl) (thn (he.run pins s σ H _ I h) fun u s1 ⟨x, H1, I1, rx, a, dx, fs, ex, ea, l, q⟩ => ?_) ht
  subst ex
  obtain rfl : u = Value.ref a := rx
  refine getmeth_ok I1 ea c hm l ?_
  exact PySem.W.callWith_K0 (first := [.ref a]) I1.kIn hm.kp (run_fnS (us := [.ref a]) (vs := [.ref a]) F hr hb (hx σ) I1 (.cons rfl .nil) q)
def gFld (K : PySem.W.Frag) (to : TE) (f : Str) : TG := fun v σ H Q => to σ H fun x H2 => ∃ a C dx fs, x = .ref a ∧ H2 a = some (.ins C dx fs) ∧ Cls K C ∧ NoAttr K C f ∧ fs.length < 1000 ∧ Q σ (upd H2 a (.ins C dx (putF f v fs)))
theorem pg_fld {o : Expr} {f : Str} {to : TE} (ho : PE X o to)
    (ha : ∀ v, assign (.Attribute o f pos) X.env v = (do
      let ov ← holding [v] (eval o X.env)
      standAt pos.atName
      holding [v, ov] (setAttr ov f v)
      release [v, ov] []) := by intro _; rfl) : PG X (.Attribute o f pos) (gFld X.K to f) := by
  refine ⟨fun pins s σ H v u Q I r h => ?_⟩
  rw [ha]
  refine wpAny_bind (wpAny_holding (thn (ho.run pins s σ H _ I h) fun ov s2 ⟨x, H2, I2, rx, a, C, dx, fs, ex, ea, c, n, l, q2⟩ => ?_))
  subst ex
  obtain rfl : ov = Value.ref a := rx
  refine wpAny_bind (wpAny_standAt (wpAny_bind (wpAny_holding ?_)))
  exact setattr_ok I2 ea c n l r fun s3 I3 => wpAny_release ⟨σ, _, I3, q2⟩
end
end L2

set_option Elab.async false
set_option linter.all false
set_option maxRecDepth 100000
set_option maxHeartbeats 2000000
namespace Tw
open PySem PySem.Spec PyProof.Rows L2
def topS (i : Nat) : Stmt := PySem.Challenge.pw_heaprows_k74_undone.main.body.getD i (.Pass ⟨0, 0, 0, 0⟩)
abbrev s_is_integer : Stmt := topS 17
theorem sc_is_integer : FnScope ["thing"] ["thing"] (defScope s_is_integer) := ⟨rfl, rfl, rfl, by decide +kernel, rfl, by decide +kernel, by decide +kernel⟩
abbrev s_is_integer_from : Stmt := topS 18
theorem sc_is_integer_from : FnScope ["thing", "least", "greatest"] ["thing", "least", "greatest"] (defScope s_is_integer_from) := ⟨rfl, rfl, rfl, by decide +kernel, rfl, by decide +kernel, by decide +kernel⟩
abbrev s_is_key : Stmt := topS 19
theorem sc_is_key : FnScope ["thing"] ["thing"] (defScope s_is_key) := ⟨rfl, rfl, rfl, by decide +kernel, rfl, by decide +kernel, by decide +kernel⟩
abbrev s_check_arms : Stmt := topS 20
theorem sc_check_arms : FnScope ["arms"] ["arms"] (defScope s_check_arms) := ⟨rfl, rfl, rfl, by decide +kernel, rfl, by decide +kernel, by decide +kernel⟩
abbrev s_check_many : Stmt := topS 21
theorem sc_check_many : FnScope ["many"] ["many"] (defScope s_check_many) := ⟨rfl, rfl, rfl, by decide +kernel, rfl, by decide +kernel, by decide +kernel⟩
abbrev s_check_place : Stmt := topS 22
theorem sc_check_place : FnScope ["place", "many"] ["place", "many"] (defScope s_check_place) := ⟨rfl, rfl, rfl, by decide +kernel, rfl, by decide +kernel, by decide +kernel⟩
abbrev s_check_key : Stmt := topS 23
theorem sc_check_key : FnScope ["key"] ["key"] (defScope s_check_key) := ⟨rfl, rfl, rfl, by decide +kernel, rfl, by decide +kernel, by decide +kernel⟩
abbrev s_row_of : Stmt := topS 24
theorem sc_row_of : FnScope ["row", "index", "key"] ["row"] (defScope s_row_of) := ⟨rfl, rfl, rfl, by decide +kernel, rfl, by decide +kernel, by decide +kernel⟩
abbrev s_t___init__ : Stmt := inClass (topS 26) 0
theorem sc_t___init__ : FnScope ["self", "many", "arms"] ["self", "many", "arms"] (defScope s_t___init__) := ⟨rfl, rfl, rfl, by decide +kernel, rfl, by decide +kernel, by decide +kernel⟩
abbrev s_t_of : Stmt := inClass (topS 26) 1
theorem sc_t_of : FnScope ["cls", "row", "arms"] ["cls", "row", "arms"] (defScope s_t_of) := ⟨rfl, rfl, rfl, by decide +kernel, rfl, by decide +kernel, by decide +kernel⟩
abbrev s_t___len__ : Stmt := inClass (topS 26) 2
theorem sc_t___len__ : FnScope ["self"] ["self"] (defScope s_t___len__) := ⟨rfl, rfl, rfl, by decide +kernel, rfl, by decide +kernel, by decide +kernel⟩
abbrev s_t___getitem__ : Stmt := inClass (topS 26) 5
theorem sc_t___getitem__ : FnScope ["self", "place", "first"] ["self", "place"] (defScope s_t___getitem__) := ⟨rfl, rfl, rfl, by decide +kernel, rfl, by decide +kernel, by decide +kernel⟩
abbrev s_t_parent : Stmt := inClass (topS 26) 7
theorem sc_t_parent : FnScope ["self", "place"] ["self", "place"] (defScope s_t_parent) := ⟨rfl, rfl, rfl, by decide +kernel, rfl, by decide +kernel, by decide +kernel⟩
abbrev s_t_way_to : Stmt := inClass (topS 26) 8
theorem sc_t_way_to : FnScope ["self", "place", "way", "above"] ["self", "place"] (defScope s_t_way_to) := ⟨rfl, rfl, rfl, by decide +kernel, rfl, by decide +kernel, by decide +kernel⟩
abbrev s_z___init__ : Stmt := inClass (topS 28) 0
theorem sc_z___init__ : FnScope ["self", "row", "way", "looks"] ["self", "row", "way", "looks"] (defScope s_z___init__) := ⟨rfl, rfl, rfl, by decide +kernel, rfl, by decide +kernel, by decide +kernel⟩
abbrev s_sift_up : Stmt := topS 29
theorem sc_sift_up : FnScope ["row", "place", "arms", "tree", "above", "keys", "way", "looks", "parent", "here"] ["row", "place", "arms"] (defScope s_sift_up) := ⟨rfl, rfl, rfl, by decide +kernel, rfl, by decide +kernel, by decide +kernel⟩
abbrev s_sift_down : Stmt := topS 30
theorem sc_sift_down : FnScope ["row", "place", "arms", "tree", "children", "keys", "way", "looks", "here", "child"] ["row", "place", "arms"] (defScope s_sift_down) := ⟨rfl, rfl, rfl, by decide +kernel, rfl, by decide +kernel, by decide +kernel⟩
abbrev s_least_child : Stmt := topS 31
theorem sc_least_child : FnScope ["keys", "children"] ["keys", "children"] (defScope s_least_child) := ⟨rfl, rfl, rfl, by decide +kernel, rfl, by decide +kernel, by decide +kernel⟩
abbrev s_is_name : Stmt := topS 36
theorem sc_is_name : FnScope ["thing", "letter"] ["thing"] (defScope s_is_name) := ⟨rfl, rfl, rfl, by decide +kernel, rfl, by decide +kernel, by decide +kernel⟩
abbrev s_j___init__ : Stmt := inClass (topS 35) 0
theorem sc_j___init__ : FnScope ["self", "arms"] ["self", "arms"] (defScope s_j___init__) := ⟨rfl, rfl, rfl, by decide +kernel, rfl, by decide +kernel, by decide +kernel⟩
abbrev s_j___len__ : Stmt := inClass (topS 35) 2
theorem sc_j___len__ : FnScope ["self"] ["self"] (defScope s_j___len__) := ⟨rfl, rfl, rfl, by decide +kernel, rfl, by decide +kernel, by decide +kernel⟩
abbrev s_j___contains__ : Stmt := inClass (topS 35) 3
theorem sc_j___contains__ : FnScope ["self", "thing"] ["self", "thing"] (defScope s_j___contains__) := ⟨rfl, rfl, rfl, by decide +kernel, rfl, by decide +kernel, by decide +kernel⟩
abbrev s_j_heap : Stmt := inClass (topS 35) 4
theorem sc_j_heap : FnScope ["self"] ["self"] (defScope s_j_heap) := ⟨rfl, rfl, rfl, by decide +kernel, rfl, by decide +kernel, by decide +kernel⟩
abbrev s_j_names : Stmt := inClass (topS 35) 5
theorem sc_j_names : FnScope ["self"] ["self"] (defScope s_j_names) := ⟨rfl, rfl, rfl, by decide +kernel, rfl, by decide +kernel, by decide +kernel⟩
abbrev s_j_journal : Stmt := inClass (topS 35) 6
theorem sc_j_journal : FnScope ["self", "done"] ["self"] (defScope s_j_journal) := ⟨rfl, rfl, rfl, by decide +kernel, rfl, by decide +kernel, by decide +kernel⟩
abbrev s_j_put : Stmt := inClass (topS 35) 7
theorem sc_j_put : FnScope ["self", "name", "key"] ["self", "name", "key"] (defScope s_j_put) := ⟨rfl, rfl, rfl, by decide +kernel, rfl, by decide +kernel, by decide +kernel⟩
abbrev s_j_change : Stmt := inClass (topS 35) 8
theorem sc_j_change : FnScope ["self", "name", "key", "place", "before", "heap"] ["self", "name", "key"] (defScope s_j_change) := ⟨rfl, rfl, rfl, by decide +kernel, rfl, by decide +kernel, by decide +kernel⟩
abbrev s_j_take : Stmt := inClass (topS 35) 9
theorem sc_j_take : FnScope ["self", "name"] ["self"] (defScope s_j_take) := ⟨rfl, rfl, rfl, by decide +kernel, rfl, by decide +kernel, by decide +kernel⟩
abbrev s_j_drop : Stmt := inClass (topS 35) 10
theorem sc_j_drop : FnScope ["self", "name", "place", "key"] ["self", "name"] (defScope s_j_drop) := ⟨rfl, rfl, rfl, by decide +kernel, rfl, by decide +kernel, by decide +kernel⟩
abbrev s_j_where : Stmt := inClass (topS 35) 15
theorem sc_j_where : FnScope ["self", "name"] ["self", "name"] (defScope s_j_where) := ⟨rfl, rfl, rfl, by decide +kernel, rfl, by decide +kernel, by decide +kernel⟩
abbrev s_j_key_of : Stmt := inClass (topS 35) 16
theorem sc_j_key_of : FnScope ["self", "name"] ["self", "name"] (defScope s_j_key_of) := ⟨rfl, rfl, rfl, by decide +kernel, rfl, by decide +kernel, by decide +kernel⟩
abbrev s_j__note : Stmt := inClass (topS 35) 18
theorem sc_j__note : FnScope ["self", "deed"] ["self", "deed"] (defScope s_j__note) := ⟨rfl, rfl, rfl, by decide +kernel, rfl, by decide +kernel, by decide +kernel⟩
abbrev s_j__settle : Stmt := inClass (topS 35) 19
theorem sc_j__settle : FnScope ["self", "heap", "names", "place", "is_greater", "sift", "moved", "here", "there"] ["self", "heap", "names", "place", "is_greater"] (defScope s_j__settle) := ⟨rfl, rfl, rfl, by decide +kernel, rfl, by decide +kernel, by decide +kernel⟩
abbrev s_j__remove : Stmt := inClass (topS 35) 20
theorem sc_j__remove : FnScope ["self", "place", "key", "name", "before", "heap", "names"] ["self", "place"] (defScope s_j__remove) := ⟨rfl, rfl, rfl, by decide +kernel, rfl, by decide +kernel, by decide +kernel⟩
abbrev s__law_number : Stmt := topS 38
theorem sc__law_number : FnScope ["script", "index", "cells", "cell", "low", "high", "total", "blend"] ["script", "index"] (defScope s__law_number) := ⟨rfl, rfl, rfl, by decide +kernel, rfl, by decide +kernel, by decide +kernel⟩
abbrev s__law_up : Stmt := topS 39
theorem sc__law_up : FnScope ["rows", "place", "wide", "upper"] ["rows", "place", "wide"] (defScope s__law_up) := ⟨rfl, rfl, rfl, by decide +kernel, rfl, by decide +kernel, by decide +kernel⟩
abbrev s__law_down : Stmt := topS 40
theorem sc__law_down : FnScope ["rows", "place", "wide", "some", "least", "one", "late"] ["rows", "place", "wide"] (defScope s__law_down) := ⟨rfl, rfl, rfl, by decide +kernel, rfl, by decide +kernel, by decide +kernel⟩
abbrev s__law_put : Stmt := topS 41
theorem sc__law_put : FnScope ["rows", "name", "key", "wide"] ["rows", "name", "key", "wide"] (defScope s__law_put) := ⟨rfl, rfl, rfl, by decide +kernel, rfl, by decide +kernel, by decide +kernel⟩
abbrev s__law_take : Stmt := topS 42
theorem sc__law_take : FnScope ["rows", "wide", "name", "last"] ["rows", "wide"] (defScope s__law_take) := ⟨rfl, rfl, rfl, by decide +kernel, rfl, by decide +kernel, by decide +kernel⟩
abbrev s__law_change : Stmt := topS 43
theorem sc__law_change : FnScope ["rows", "place", "pair", "wide", "before"] ["rows", "place", "pair", "wide"] (defScope s__law_change) := ⟨rfl, rfl, rfl, by decide +kernel, rfl, by decide +kernel, by decide +kernel⟩
abbrev s__law_drop : Stmt := topS 44
theorem sc__law_drop : FnScope ["rows", "place", "wide", "key", "last"] ["rows", "place", "wide"] (defScope s__law_drop) := ⟨rfl, rfl, rfl, by decide +kernel, rfl, by decide +kernel, by decide +kernel⟩
abbrev s__law_deed : Stmt := topS 45
theorem sc__law_deed : FnScope ["script", "at", "rows", "words", "kind", "more", "free", "key", "name", "word", "pair"] ["script", "at", "rows"] (defScope s__law_deed) := ⟨rfl, rfl, rfl, by decide +kernel, rfl, by decide +kernel, by decide +kernel⟩
abbrev s__law_done : Stmt := topS 46
theorem sc__law_done : FnScope ["queue", "rows", "deed", "wide", "place", "pair"] ["queue", "rows", "deed", "wide"] (defScope s__law_done) := ⟨rfl, rfl, rfl, by decide +kernel, rfl, by decide +kernel, by decide +kernel⟩
abbrev s__law_same : Stmt := topS 47
theorem sc__law_same : FnScope ["queue", "rows", "past", "pair", "place"] ["queue", "rows", "past"] (defScope s__law_same) := ⟨rfl, rfl, rfl, by decide +kernel, rfl, by decide +kernel, by decide +kernel⟩
abbrev s_j_undo : Stmt := inClass (topS 35) 11
theorem sc_j_undo : FnScope ["self", "deed"] ["self"] (defScope s_j_undo) := ⟨rfl, rfl, rfl, by decide +kernel, rfl, by decide +kernel, by decide +kernel⟩
abbrev s__law_back : Stmt := topS 48
theorem sc__law_back : FnScope ["queue"] ["queue"] (defScope s__law_back) := ⟨rfl, rfl, rfl, by decide +kernel, rfl, by decide +kernel, by decide +kernel⟩
abbrev s_law : Stmt := topS 49
theorem sc_law : FnScope ["script", "seed", "wide", "rows", "past", "before", "queue", "turn", "deed", "pair"] ["script"] (defScope s_law) := ⟨rfl, rfl, rfl, by decide +kernel, rfl, by decide +kernel, by decide +kernel⟩
/-- where the text's defs stand -/
structure Ad where
  f_is_integer : Addr
  d_is_integer : FuncData
  f_is_integer_from : Addr
  d_is_integer_from : FuncData
  f_is_key : Addr
  d_is_key : FuncData
  f_check_arms : Addr
  d_check_arms : FuncData
  f_check_many : Addr
  d_check_many : FuncData
  f_check_place : Addr
  d_check_place : FuncData
  f_check_key : Addr
  d_check_key : FuncData
  f_row_of : Addr
  d_row_of : FuncData
  f_t___init__ : Addr
  d_t___init__ : FuncData
  f_t_of : Addr
  d_t_of : FuncData
  f_t___len__ : Addr
  d_t___len__ : FuncData
  f_t___getitem__ : Addr
  d_t___getitem__ : FuncData
  f_t_parent : Addr
  d_t_parent : FuncData
  f_t_way_to : Addr
  d_t_way_to : FuncData
  f_z___init__ : Addr
  d_z___init__ : FuncData
  f_sift_up : Addr
  d_sift_up : FuncData
  f_sift_down : Addr
  d_sift_down : FuncData
  f_least_child : Addr
  d_least_child : FuncData
  f_is_name : Addr
  d_is_name : FuncData
  f_j___init__ : Addr
  d_j___init__ : FuncData
  f_j___len__ : Addr
  d_j___len__ : FuncData
  f_j___contains__ : Addr
  d_j___contains__ : FuncData
  f_j_heap : Addr
  d_j_heap : FuncData
  f_j_names : Addr
  d_j_names : FuncData
  f_j_journal : Addr
  d_j_journal : FuncData
  f_j_put : Addr
  d_j_put : FuncData
  f_j_change : Addr
  d_j_change : FuncData
  f_j_take : Addr
  d_j_take : FuncData
  f_j_drop : Addr
  d_j_drop : FuncData
  f_j_where : Addr
  d_j_where : FuncData
  f_j_key_of : Addr
  d_j_key_of : FuncData
  f_j__note : Addr
  d_j__note : FuncData
  f_j__settle : Addr
  d_j__settle : FuncData
  f_j__remove : Addr
  d_j__remove : FuncData
  f__law_number : Addr
  d__law_number : FuncData
  f__law_up : Addr
  d__law_up : FuncData
  f__law_down : Addr
  d__law_down : FuncData
  f__law_put : Addr
  d__law_put : FuncData
  f__law_take : Addr
  d__law_take : FuncData
  f__law_change : Addr
  d__law_change : FuncData
  f__law_drop : Addr
  d__law_drop : FuncData
  f__law_deed : Addr
  d__law_deed : FuncData
  f__law_done : Addr
  d__law_done : FuncData
  f__law_same : Addr
  d__law_same : FuncData
  f_j_undo : Addr
  d_j_undo : FuncData
  f__law_back : Addr
  d__law_back : FuncData
  f_law : Addr
  d_law : FuncData
  p_j_heap : Addr
  p_j_names : Addr
  p_j_journal : Addr
  C : Addr
  po : Addr
  CS : Addr
  CJ : Addr
  CM : Addr
  CN : Addr
  c_least_child : Addr
  P_least_child : Addr
/-- what the top has written -/
structure Tx (K : PySem.W.Frag) (mg : Str → Option Value) (A : Ad) : Prop where
  F_is_integer : Fun K "is_integer" "is_integer" s_is_integer A.f_is_integer A.d_is_integer
  m_is_integer : mg "is_integer" = some (.ref A.f_is_integer)
  F_is_integer_from : Fun K "is_integer_from" "is_integer_from" s_is_integer_from A.f_is_integer_from A.d_is_integer_from
  m_is_integer_from : mg "is_integer_from" = some (.ref A.f_is_integer_from)
  F_is_key : Fun K "is_key" "is_key" s_is_key A.f_is_key A.d_is_key
  m_is_key : mg "is_key" = some (.ref A.f_is_key)
  F_check_arms : Fun K "check_arms" "check_arms" s_check_arms A.f_check_arms A.d_check_arms
  m_check_arms : mg "check_arms" = some (.ref A.f_check_arms)
  F_check_many : Fun K "check_many" "check_many" s_check_many A.f_check_many A.d_check_many
  m_check_many : mg "check_many" = some (.ref A.f_check_many)
  F_check_place : Fun K "check_place" "check_place" s_check_place A.f_check_place A.d_check_place
  m_check_place : mg "check_place" = some (.ref A.f_check_place)
  F_check_key : Fun K "check_key" "check_key" s_check_key A.f_check_key A.d_check_key
  m_check_key : mg "check_key" = some (.ref A.f_check_key)
  F_row_of : Fun K "row_of" "row_of" s_row_of A.f_row_of A.d_row_of
  m_row_of : mg "row_of" = some (.ref A.f_row_of)
  F_t___init__ : FunD K "__init__" "Tree.__init__" (defArgs s_t___init__) (defBody s_t___init__) (defScope s_t___init__) [] [("arms", V.int 2)] A.f_t___init__ A.d_t___init__
  F_t_of : FunD K "of" "Tree.of" (defArgs s_t_of) (defBody s_t_of) (defScope s_t_of) [] [("arms", V.int 2)] A.f_t_of A.d_t_of
  F_t___len__ : Fun K "__len__" "Tree.__len__" s_t___len__ A.f_t___len__ A.d_t___len__
  D_t___len__ : Dn K A.C "__len__" A.f_t___len__
  F_t___getitem__ : Fun K "__getitem__" "Tree.__getitem__" s_t___getitem__ A.f_t___getitem__ A.d_t___getitem__
  D_t___getitem__ : Dn K A.C "__getitem__" A.f_t___getitem__
  F_t_parent : Fun K "parent" "Tree.parent" s_t_parent A.f_t_parent A.d_t_parent
  M_t_parent : Meth K A.C "parent" A.f_t_parent
  F_t_way_to : Fun K "way_to" "Tree.way_to" s_t_way_to A.f_t_way_to A.d_t_way_to
  M_t_way_to : Meth K A.C "way_to" A.f_t_way_to
  F_z___init__ : Fun K "__init__" "Sift.__init__" s_z___init__ A.f_z___init__ A.d_z___init__
  F_sift_up : FunD K "sift_up" "sift_up" (defArgs s_sift_up) (defBody s_sift_up) (defScope s_sift_up) [] [("arms", V.int 2)] A.f_sift_up A.d_sift_up
  m_sift_up : mg "sift_up" = some (.ref A.f_sift_up)
  F_sift_down : FunD K "sift_down" "sift_down" (defArgs s_sift_down) (defBody s_sift_down) (defScope s_sift_down) [] [("arms", V.int 2)] A.f_sift_down A.d_sift_down
  m_sift_down : mg "sift_down" = some (.ref A.f_sift_down)
  L_least_child : ∃ (oc : Value) (od : Option Addr) (kV doc pm : Value) (an : Option Addr) (ct : Value) (osl : Array (Option Value)), A.d_least_child = PySem.W.fnOf "least_child" "least_child" (defArgs s_least_child) (defBody s_least_child) (defScope s_least_child) .none kV doc pm an (.ref A.c_least_child) ct ∧ K.lookup A.f_least_child = some ⟨oc, od, .func A.d_least_child, osl⟩ ∧ PySem.W.codeIn K (.ref A.c_least_child) "least_child" = true
  F_least_child : Fun K "least_child" "least_child" s_least_child A.f_least_child A.d_least_child
  m_least_child : mg "least_child" = some (.ref A.f_least_child)
  F_is_name : Fun K "is_name" "is_name" s_is_name A.f_is_name A.d_is_name
  m_is_name : mg "is_name" = some (.ref A.f_is_name)
  F_j___init__ : FunD K "__init__" "Queue.__init__" (defArgs s_j___init__) (defBody s_j___init__) (defScope s_j___init__) [] [("arms", V.int 2)] A.f_j___init__ A.d_j___init__
  F_j___len__ : Fun K "__len__" "Queue.__len__" s_j___len__ A.f_j___len__ A.d_j___len__
  D_j___len__ : Dn K A.CJ "__len__" A.f_j___len__
  F_j___contains__ : Fun K "__contains__" "Queue.__contains__" s_j___contains__ A.f_j___contains__ A.d_j___contains__
  D_j___contains__ : Dn K A.CJ "__contains__" A.f_j___contains__
  F_j_heap : Fun K "heap" "Queue.heap" s_j_heap A.f_j_heap A.d_j_heap
  P_j_heap : PropOf K A.CJ "heap" A.p_j_heap A.f_j_heap
  F_j_names : Fun K "names" "Queue.names" s_j_names A.f_j_names A.d_j_names
  P_j_names : PropOf K A.CJ "names" A.p_j_names A.f_j_names
  F_j_journal : Fun K "journal" "Queue.journal" s_j_journal A.f_j_journal A.d_j_journal
  P_j_journal : PropOf K A.CJ "journal" A.p_j_journal A.f_j_journal
  F_j_put : Fun K "put" "Queue.put" s_j_put A.f_j_put A.d_j_put
  M_j_put : Meth K A.CJ "put" A.f_j_put
  F_j_change : Fun K "change" "Queue.change" s_j_change A.f_j_change A.d_j_change
  M_j_change : Meth K A.CJ "change" A.f_j_change
  F_j_take : Fun K "take" "Queue.take" s_j_take A.f_j_take A.d_j_take
  M_j_take : Meth K A.CJ "take" A.f_j_take
  F_j_drop : Fun K "drop" "Queue.drop" s_j_drop A.f_j_drop A.d_j_drop
  M_j_drop : Meth K A.CJ "drop" A.f_j_drop
  F_j_where : Fun K "where" "Queue.where" s_j_where A.f_j_where A.d_j_where
  M_j_where : Meth K A.CJ "where" A.f_j_where
  F_j_key_of : Fun K "key_of" "Queue.key_of" s_j_key_of A.f_j_key_of A.d_j_key_of
  M_j_key_of : Meth K A.CJ "key_of" A.f_j_key_of
  F_j__note : Fun K "_note" "Queue._note" s_j__note A.f_j__note A.d_j__note
  M_j__note : Meth K A.CJ "_note" A.f_j__note
  F_j__settle : Fun K "_settle" "Queue._settle" s_j__settle A.f_j__settle A.d_j__settle
  M_j__settle : Meth K A.CJ "_settle" A.f_j__settle
  F_j__remove : Fun K "_remove" "Queue._remove" s_j__remove A.f_j__remove A.d_j__remove
  M_j__remove : Meth K A.CJ "_remove" A.f_j__remove
  F__law_number : Fun K "_law_number" "_law_number" s__law_number A.f__law_number A.d__law_number
  m__law_number : mg "_law_number" = some (.ref A.f__law_number)
  F__law_up : Fun K "_law_up" "_law_up" s__law_up A.f__law_up A.d__law_up
  m__law_up : mg "_law_up" = some (.ref A.f__law_up)
  F__law_down : Fun K "_law_down" "_law_down" s__law_down A.f__law_down A.d__law_down
  m__law_down : mg "_law_down" = some (.ref A.f__law_down)
  F__law_put : Fun K "_law_put" "_law_put" s__law_put A.f__law_put A.d__law_put
  m__law_put : mg "_law_put" = some (.ref A.f__law_put)
  F__law_take : Fun K "_law_take" "_law_take" s__law_take A.f__law_take A.d__law_take
  m__law_take : mg "_law_take" = some (.ref A.f__law_take)
  F__law_change : Fun K "_law_change" "_law_change" s__law_change A.f__law_change A.d__law_change
  m__law_change : mg "_law_change" = some (.ref A.f__law_change)
  F__law_drop : Fun K "_law_drop" "_law_drop" s__law_drop A.f__law_drop A.d__law_drop
  m__law_drop : mg "_law_drop" = some (.ref A.f__law_drop)
  F__law_deed : Fun K "_law_deed" "_law_deed" s__law_deed A.f__law_deed A.d__law_deed
  m__law_deed : mg "_law_deed" = some (.ref A.f__law_deed)
  F__law_done : Fun K "_law_done" "_law_done" s__law_done A.f__law_done A.d__law_done
  m__law_done : mg "_law_done" = some (.ref A.f__law_done)
  F__law_same : Fun K "_law_same" "_law_same" s__law_same A.f__law_same A.d__law_same
  m__law_same : mg "_law_same" = some (.ref A.f__law_same)
  F_j_undo : Fun K "undo" "Queue.undo" s_j_undo A.f_j_undo A.d_j_undo
  M_j_undo : Meth K A.CJ "undo" A.f_j_undo
  F__law_back : Fun K "_law_back" "_law_back" s__law_back A.f__law_back A.d__law_back
  m__law_back : mg "_law_back" = some (.ref A.f__law_back)
  F_law : Fun K "law" "law" s_law A.f_law A.d_law
  m_law : mg "law" = some (.ref A.f_law)
  c_GREATEST_KEY : mg "GREATEST_KEY" = some (.int 1000000000 0) ∨ ∃ t, mg "GREATEST_KEY" = some (.int 1000000000 t)
  c_LONGEST_NAME : mg "LONGEST_NAME" = some (.int 8 0) ∨ ∃ t, mg "LONGEST_NAME" = some (.int 8 t)
  c_MOST_ARMS : mg "MOST_ARMS" = some (.int 4 0) ∨ ∃ t, mg "MOST_ARMS" = some (.int 4 t)
  c_MOST_PLACES : mg "MOST_PLACES" = some (.int 12 0) ∨ ∃ t, mg "MOST_PLACES" = some (.int 12 t)
  s_LETTERS : ∃ t, mg "LETTERS" = some (.str ("abcdefghijklmnopqrstuvwxyz" : Str) t)
  g_all : mg "all" = none
  g_bool : mg "bool" = none
  g_enumerate : mg "enumerate" = none
  g_int : mg "int" = none
  g_isinstance : mg "isinstance" = none
  g_len : mg "len" = none
  g_list : mg "list" = none
  g_min : mg "min" = none
  g_range : mg "range" = none
  g_reversed : mg "reversed" = none
  g_str : mg "str" = none
  g_sum : mg "sum" = none
  g_tuple : mg "tuple" = none
  g_zip : mg "zip" = none
  cT : Cls K A.C
  nMany : NoAttr K A.C "many"
  nArms : NoAttr K A.C "arms"
  nPl : NoAttr K A.C "_places"
  mC : mg "Tree" = some (.ref A.C)
  mkC : Mk K A.C A.f_t___init__
  cr : ClX.CRead K A.C (.type "type")
  cof : ClX.CMet K A.C (.type "type") "of" A.po A.f_t_of
  cTS : Cls K A.CS
  nRow : NoAttr K A.CS "row"
  nWay : NoAttr K A.CS "way"
  nLooks : NoAttr K A.CS "looks"
  mCS : mg "Sift" = some (.ref A.CS)
  mkCS : Mk K A.CS A.f_z___init__
  cTJ : Cls K A.CJ
  jArms : NoAttr K A.CJ "arms"
  jHeap : NoAttr K A.CJ "_heap"
  jNames : NoAttr K A.CJ "_names"
  jDone : NoAttr K A.CJ "_done"
  jBegun : NoAttr K A.CJ "_begun"
  jMark : NoAttr K A.CJ "_mark"
  mCJ : mg "Queue" = some (.ref A.CJ)
  mkCJ : Mk K A.CJ A.f_j___init__
  cTM : Cls K A.CM
  mCM : mg "Mark" = some (.ref A.CM)
  mkCM : L2.MkO K A.CM
  xXN : PySem.W.excIn K A.CN [.type "ValueError", .type "Exception", .type "BaseException", .type "object"] "ValueError.__new__" = true
  mCN : mg "NothingDone" = some (.ref A.CN)
  kXN : PySem.W.keepIn K (.ref A.CN) = true
  bXN : PySem.W.subIn K (.ref A.CN) (.type "BaseException") = some true
  tXN : PySem.W.typeIn K (.ref A.CN) = some (.type "type")
  eXN : PySem.W.exmOne K (.ref A.CN) (.ref A.CN) = some true
def TT (A : Ad) : List (Addr × Str) := [(A.P_least_child, ("least_child" : Str) ++ ".<locals>." ++ "<lambda>")]

end Tw

set_option Elab.async false
set_option linter.all false
set_option maxRecDepth 100000
set_option maxHeartbeats 2000000
namespace Tw
open PySem PySem.Spec PyProof.Rows L2
section
variable {P : Program} {w : World} {K : PySem.W.Frag} {mg : Str → Option Value} {base : Heap} {A : Ad}
open LamX (ExtN Tabs TabS)
/-- what stood, but for what stands at d -/
def But (d : Addr) (H H' : Hp) : Prop := ∀ b o, b ≠ d → H b = some o → H' b = some o
theorem But.trans {d : Addr} {H H1 H2 : Hp} (a : But d H H1) (b : But d H1 H2) : But d H H2 := fun c o n e => b c o n (a c o n e)
theorem But.trans' {R : Addr} {H H1 H2 : Hp} (a : But R H H1) (b : But R H1 H2) : But R H H2 := fun c o n h => b c o n (a c o n h)
inductive Deed where
  | put (n : Str) (k : Int)
  | chg (n : Str) (k : Int)
  | drp (n : Str)
  | tak
def dvs : Deed → List V
  | .put n k => [.str "put", .str n, .int k]
  | .chg n k => [.str "change", .str n, .int k]
  | .drp n => [.str "drop", .str n]
  | .tak => [.str "take"]
abbrev Pr := Int × Str
def keys (ps : List Pr) : List Int := ps.map (·.1)
def names (ps : List Pr) : List Str := ps.map (·.2)
/-- the tuple of names -/
def NmAt (H : Hp) (u : Addr) (ns : List Str) : Prop := TupF H u (ns.map V.str) ∨ (ns = [] ∧ H u = some (.tup []))
def EntAt (H : Hp) (x : V) (e : Deed × List Pr) : Prop := ∃ a b t u, x = .ref a ∧ H a = some (.tup [.ref b, .ref t, .ref u]) ∧ H b = some (.tup (dvs e.1)) ∧ H t = some (.tup ((keys e.2).map V.int)) ∧ NmAt H u (names e.2)
inductive EntsAt (H : Hp) : List V → List (Deed × List Pr) → Prop
  | nil : EntsAt H [] []
  | cons {x : V} {xs : List V} {e : Deed × List Pr} {es : List (Deed × List Pr)} : EntAt H x e → EntsAt H xs es → EntsAt H (x :: xs) (e :: es)
/-- all but an instance, a list and the tables stay -/
def Fr (p d : Addr) (H H' : Hp) : Prop := ∀ b o, H b = some o → (∀ ps, o ≠ .tbl ps) → b ≠ p → b ≠ d → H' b = some o
theorem Fr.putD {p d : Addr} {H : Hp} (o : HO) : Fr p d H (upd H d o) := fun b u h _ _ k => by rw [upd_ne k]; exact h
theorem Fr.putP {p d : Addr} {H : Hp} (o : HO) : Fr p d H (upd H p o) := fun b u h _ k _ => by rw [upd_ne k]; exact h
/-- what is no instance and no list stays -/
def Fz (H H' : Hp) : Prop := ∀ b o, H b = some o → (∀ ps, o ≠ .tbl ps) → (∀ C dx fs, o ≠ .ins C dx fs) → (∀ xs, o ≠ .lst xs) → H' b = some o
def fdJ (w : Int) (t u d : Addr) (b : Int) (m : V) : List (Str × V) := [("arms", .int w), ("_heap", .ref t), ("_names", .ref u), ("_done", .ref d), ("_begun", .int b), ("_mark", m)]
/-- a queue: its arms, heap, names, journal -/
structure QAt (C : Addr) (H : Hp) (p : Addr) (w : Nat) (t u d b : Nat) (ps : List Pr) (es : List (Deed × List Pr)) : Prop where
  ob : ∃ dx m, H p = some (.ins C dx (fdJ w t u d b m))
  hp : H t = some (.tup ((keys ps).map V.int))
  nm : NmAt H u (names ps)
  dn : ∃ xs, H d = some (.lst xs) ∧ EntsAt H xs es
theorem lk_eq {f : Str} {v : V} {l : List (Str × V)} : List.lookup f ((f, v) :: l) = some v := by
  have hb : (f == f) = true := beq_iff_eq.mpr rfl
  simp only [List.lookup, hb]
theorem lk_ne {f g : Str} {v : V} {l : List (Str × V)} (h : g ≠ f) : List.lookup g ((f, v) :: l) = List.lookup g l := by
  have hb : (g == f) = false := beq_eq_false_iff_ne.mpr h
  simp only [List.lookup, hb]
theorem fdJ_dn (w : Int) (t u d : Addr) (b : Int) (m : V) : (fdJ w t u d b m).lookup ("_done" : Str) = some (.ref d) := (lk_ne (by decide +kernel)).trans ((lk_ne (by decide +kernel)).trans ((lk_ne (by decide +kernel)).trans lk_eq))
theorem fdJ_no {f : Str} (w : Int) (t u d : Addr) (b : Int) (m : V) (h1 : f ≠ "arms") (h2 : f ≠ "_heap") (h3 : f ≠ "_names") (h4 : f ≠ "_done") (h5 : f ≠ "_begun") (h6 : f ≠ "_mark") : (fdJ w t u d b m).lookup f = none := by
  unfold fdJ
  rw [lk_ne h1, lk_ne h2, lk_ne h3, lk_ne h4, lk_ne h5, lk_ne h6]
  rfl
theorem fdJ_setH (w : Int) (t t' u d : Addr) (b : Int) (m : V) : putF "_heap" (.ref t') (fdJ w t u d b m) = fdJ w t' u d b m := by
  have h1 : ("arms" : Str) ≠ "_heap" := by decide +kernel
  unfold fdJ
  simp only [putF, if_neg h1, if_true]
theorem fdJ_setN (w : Int) (t u u' d : Addr) (b : Int) (m : V) : putF "_names" (.ref u') (fdJ w t u d b m) = fdJ w t u' d b m := by
  have h1 : ("arms" : Str) ≠ "_names" := by decide +kernel
  have h2 : ("_heap" : Str) ≠ "_names" := by decide +kernel
  unfold fdJ
  simp only [putF, if_neg h1, if_neg h2, if_true]
theorem n1 : ¬ (("many" : Str) = "arms") := by decide +kernel
theorem n2 : ¬ (("many" : Str) = "_places") := by decide +kernel
theorem n3 : ¬ (("arms" : Str) = "_places") := by decide +kernel
theorem tabs_ins {Ts : List (Addr × Str)} {H : Hp} {p C dx : Addr} {fs fs' : List (Str × V)} (t : Tabs Ts H) (h : H p = some (.ins C dx fs)) : Tabs Ts (upd H p (.ins C dx fs')) := fun q hq => by
  obtain ⟨ps, h1, h2, h3⟩ := t q hq
  refine ⟨ps, by rw [upd_ne (ne_of h1 h (by intro z; cases z))]; exact h1, h2, fun pos cv hc => ?_⟩
  obtain ⟨c, e1, e2⟩ := h3 pos cv hc
  exact ⟨c, e1, by rw [upd_ne (ne_of e2 h (by intro z; cases z))]; exact e2⟩
theorem tabs_putL {Ts : List (Addr × Str)} {H : Hp} {d : Addr} {xs zs : List V} (t : Tabs Ts H) (h : H d = some (.lst xs)) : Tabs Ts (upd H d (.lst zs)) := fun q hq => by
  obtain ⟨ps, h1, h2, h3⟩ := t q hq
  refine ⟨ps, by rw [upd_ne (ne_of h1 h (by intro z; cases z))]; exact h1, h2, fun pos cv hc => ?_⟩
  obtain ⟨c, e1, e2⟩ := h3 pos cv hc
  exact ⟨c, e1, by rw [upd_ne (ne_of e2 h (by intro z; cases z))]; exact e2⟩
theorem But.of {d : Addr} {H H' : Hp} (s : Same H H') : But d H H' := fun b o _ e => s b o e
theorem Fz.tup {H H' : Hp} (f : Fz H H') {a : Addr} {xs : List V} (h : H a = some (.tup xs)) : H' a = some (.tup xs) := f _ _ h (fun _ z => nomatch z) (fun _ _ _ z => nomatch z) (fun _ z => nomatch z)
theorem NmAt.fz {H H' : Hp} {u : Addr} {ns : List Str} (h : NmAt H u ns) (f : Fz H H') : NmAt H' u ns := by
  rcases h with ⟨o, e, d⟩ | ⟨e1, e2⟩
  · exact .inl ⟨o, f _ _ e (fun _ z => nomatch z) (fun _ _ _ z => nomatch z) (fun _ z => nomatch z), d⟩
  · exact .inr ⟨e1, f.tup e2⟩
theorem EntAt.fz {H H' : Hp} {x : V} {e : Deed × List Pr} (h : EntAt H x e) (f : Fz H H') : EntAt H' x e := by
  obtain ⟨a, b, t, u, rfl, h1, h2, h3, h4⟩ := h
  exact ⟨a, b, t, u, rfl, f.tup h1, f.tup h2, f.tup h3, h4.fz f⟩
theorem EntsAt.fz {H H' : Hp} {xs : List V} {es : List (Deed × List Pr)} (h : EntsAt H xs es) (f : Fz H H') : EntsAt H' xs es := by
  induction h with
  | nil => exact .nil
  | cons h1 _ ih => exact .cons (h1.fz f) ih
theorem EntsAt.len {H : Hp} {xs : List V} {es : List (Deed × List Pr)} (h : EntsAt H xs es) : xs.length = es.length := by
  induction h with
  | nil => rfl
  | cons _ _ ih => rw [List.length_cons, List.length_cons, ih]
theorem Fr.fz {p d C dx : Addr} {fs : List (Str × V)} {xs : List V} {H H' : Hp} (f : Fr p d H H') (hp : H p = some (.ins C dx fs)) (hd : H d = some (.lst xs)) : Fz H H' := fun b o h n1 n2 n3 =>
  f b o h n1 (fun z => by rw [z, hp] at h; exact n2 _ _ _ (Option.some.inj h).symm) (fun z => by rw [z, hd] at h; exact n3 _ (Option.some.inj h).symm)
theorem Fr.of {p d : Addr} {H H' : Hp} (e : LamX.ExtN H H') : Fr p d H H' := fun b o h n _ _ => e b o h n
theorem Fr.trans {p d : Addr} {H H1 H2 : Hp} (a : Fr p d H H1) (b : Fr p d H1 H2) : Fr p d H H2 := fun c o h n k1 k2 => b c o (a c o h n k1 k2) n k1 k2
theorem Fz.trans {H H1 H2 : Hp} (a : Fz H H1) (b : Fz H1 H2) : Fz H H2 := fun c o h n1 n2 n3 => b c o (a c o h n1 n2 n3) n1 n2 n3
theorem QAt.fz {C : Addr} {H H' : Hp} {p w t u d b : Nat} {ps : List Pr} {es : List (Deed × List Pr)} (h : QAt C H p w t u d b ps es) (f : Fz H H') (h1 : ∀ o, H p = some o → H' p = some o) (h2 : ∀ o, H d = some o → H' d = some o) : QAt C H' p w t u d b ps es := by
  obtain ⟨⟨dx, m, g1⟩, g2, g3, ⟨xs, g4, g5⟩⟩ := h
  exact ⟨⟨dx, m, h1 _ g1⟩, f.tup g2, g3.fz f, ⟨xs, h2 _ g4, g5.fz f⟩⟩
theorem QAt.ins {C : Addr} {H : Hp} {p w t u d b : Nat} {ps : List Pr} {es : List (Deed × List Pr)} (h : QAt C H p w t u d b ps es) : ∃ dx fs, H p = some (.ins C dx fs) := let ⟨⟨dx, m, h1⟩, _, _, _⟩ := h; ⟨dx, _, h1⟩
end
end Tw

set_option Elab.async false
set_option linter.all false
set_option maxRecDepth 100000
set_option maxHeartbeats 2000000
namespace Tw
open PySem PySem.Spec PyProof.Rows L2
section
variable {P : Program} {w : World} {K : PySem.W.Frag} {mg : Str → Option Value} {base : Heap} {A : Ad}
open LamX (ExtN Tabs TabS)
/-! undoing: QAt Fr Fz EntsAt -/
theorem fdJ_bg (w : Int) (t u d : Addr) (b : Int) (m : V) : (fdJ w t u d b m).lookup ("_begun" : Str) = some (.int b) := (lk_ne (by decide +kernel)).trans ((lk_ne (by decide +kernel)).trans ((lk_ne (by decide +kernel)).trans ((lk_ne (by decide +kernel)).trans lk_eq)))
theorem ents_last {H : Hp} {xs : List V} {es : List (Deed × List Pr)} {e : Deed × List Pr} (h : EntsAt H xs (es ++ [e])) : ∃ ys x, xs = ys ++ [x] ∧ EntsAt H ys es ∧ EntAt H x e := by
  induction es generalizing xs with
  | nil =>
    cases h with
    | cons h1 h2 =>
      cases h2
      exact ⟨[], _, rfl, .nil, h1⟩
  | cons e1 es ih =>
    cases h with
    | cons h1 h2 =>
      obtain ⟨ys, x, rfl, h3, h4⟩ := ih h2
      exact ⟨_ :: ys, x, rfl, .cons h1 h3, h4⟩
def spJundo (A : Ad) : Sp := fun vs H Q E => ∃ (p w t u d : Nat) (ps : List Pr) (es : List (Deed × List Pr)), vs = [.ref p] ∧ QAt A.CJ H p w t u d 0 ps es ∧ es.length ≤ 900 ∧
  ((es = [] ∧ E (.ref A.CN) none H) ∨ ∃ es0 de ps0, es = es0 ++ [(de, ps0)] ∧ ∀ (H' : Hp) (t' u' e : Addr), Fr p d H H' → (∀ Ts, Tabs Ts H → Tabs Ts H') → H' e = some (.tup (dvs de)) → QAt A.CJ H' p w t' u' d 0 ps0 es0 → Q (.ref e) H')
theorem ok_jundo (T : Tx K mg A) : FnOk P w K mg base (CX P w) 1 A.f_j_undo A.d_j_undo ["self"] (spJundo A) := by
  refine T.F_j_undo.okX sc_j_undo (fun vs H Q E h => ?_) (fun cdv B outer s H vs Q E hr h => ?_)
  · obtain ⟨p, w, t, u, d, ps, es, rfl, _⟩ := h
    rfl
  · obtain ⟨p, w, t, u, d, ps, es, rfl, hQ, hel, q⟩ := h
    have nd := sc_j_undo.nd
    refine ⟨_, (pss_cons (ps_if (pt_cmpR op_eq (pe_callB call_len_seq (by rfl) T.g_len PySem.boot_len (pa_cons (pe_fld (pv 0) rfl) pa_nil)) (pe_fld (pv 0) rfl) (nomark _)) (pss_one (ps_raise rfl (takes_of rfl rfl rfl rfl) (pmk_own PySem.F.excBase_ValueError T.xXN T.mCN T.kXN (raises_own T.bXN T.tXN) rfl))) pss_nil)
      (pss_cons (ps_asg (pe_bm0 PySem.F.plainAttrs_list PySem.F.slot_list_pop PySem.F.type_list_pop mt_pop (pe_fld (pv 0) rfl)) (pg_tup rfl (pgs_cons (pg_name (i := 1) nd rfl (Or.inl rfl)) (pgs_cons (pg_fld (pv 0)) (pgs_cons (pg_fld (pv 0)) pgs_nil)))))
      (pss_one (ps_ret (pv 1))))), ?_⟩
    obtain ⟨⟨dx, m, h1⟩, h2, h3, ⟨ys, h4, h5⟩⟩ := id hQ
    have hyl := h5.len
    refine ⟨_, rfl, p, A.CJ, dx, _, _, rfl, h1, T.cTJ, T.jDone, fdJ_dn _ _ _ _ _ _, d, _, rfl, .inl (SqL.of h4), _, rfl, p, A.CJ, dx, _, _, rfl, h1, T.cTJ, T.jBegun, fdJ_bg _ _ _ _ _ _, rfl, _, rfl, ?_⟩
    rw [hyl]
    rcases q with ⟨rfl, e⟩ | ⟨es0, de, ps0, rfl, q⟩
    · refine ite_b (c := true) (by exact decide_eq_true rfl) (iteT e)
    · refine ite_b (c := false) (by rw [List.length_append, List.length_singleton]; exact decide_eq_false (fun z => by injection z; omega)) (iteF ?_)
      obtain ⟨zs, x, rfl, k5, k6⟩ := ents_last h5
      obtain ⟨a, b, t1, u1, rfl, g1, g2, g3, g4⟩ := k6
      refine ⟨_, rfl, p, A.CJ, dx, _, _, rfl, h1, T.cTJ, T.jDone, fdJ_dn _ _ _ _ _ _, .inl ⟨rfl, _, SqL.of h4⟩, d, _, _, rfl, rfl, h4, by rw [List.length_append, List.length_singleton, Nat.add_sub_cancel, List.getElem?_concat_length], ?_⟩
      rw [List.dropLast_concat]
      have hdp : d ≠ p := ne_of h4 h1 (by intro z; cases z)
      have hd : ∀ c o, H c = some o → c ≠ d → upd H d (.lst zs) c = some o := fun c o h n => (upd_ne n).trans h
      have z1 : Fz H (upd H d (.lst zs)) := fun c o h n1 n2 n3 => hd _ _ h (fun z => by rw [z, h4] at h; exact n3 _ (Option.some.inj h).symm)
      have t2 : ∀ Ts, Tabs Ts H → Tabs Ts (upd H d (.lst zs)) := fun Ts t => tabs_putL t h4
      have f2 : Fr p d H (upd H d (.lst zs)) := Fr.putD _
      have p2 := hd _ _ h1 (fun z => hdp z.symm)
      have e2 : upd H d (.lst zs) d = some (.lst zs) := upd_same
      have k52 := k5.fz z1
      have a2 := z1.tup g1
      have b2 := z1.tup g2
      have t12 := z1.tup g3
      have u12 := g4.fz z1
      generalize upd H d (.lst zs) = H2 at z1 t2 f2 p2 e2 k52 a2 b2 t12 u12
      refine ⟨a, _, rfl, SqT.of a2, rfl, _, _, rfl, _, _, rfl, _, rfl, p, A.CJ, dx, _, rfl, p2, T.cTJ, T.jHeap, by show 6 < 1000; decide, ?_⟩
      rw [fdJ_setH]
      have p3 : upd H2 p (.ins A.CJ dx (fdJ w t1 u d 0 m)) p = _ := upd_same
      refine ⟨_, _, rfl, _, rfl, p, A.CJ, dx, _, rfl, p3, T.cTJ, T.jNames, by show 6 < 1000; decide, ?_⟩
      rw [fdJ_setN]
      have hp : ∀ c o, H2 c = some o → c ≠ p → upd (upd H2 p (.ins A.CJ dx (fdJ w t1 u d 0 m))) p (.ins A.CJ dx (fdJ w t1 u1 d 0 m)) c = some o := fun c o h n => (upd_ne n).trans ((upd_ne n).trans h)
      have z3 : Fz H2 (upd (upd H2 p (.ins A.CJ dx (fdJ w t1 u d 0 m))) p (.ins A.CJ dx (fdJ w t1 u1 d 0 m))) := fun c o h n1 n2 n3 => hp _ _ h (fun z => by rw [z, p2] at h; exact n2 _ _ _ (Option.some.inj h).symm)
      refine ⟨rfl, _, rfl, q _ t1 u1 b (f2.trans ((Fr.putP _).trans (Fr.putP _))) (fun Ts t => tabs_ins (tabs_ins (t2 Ts t) p2) p3) (z3.tup b2) ⟨⟨dx, m, upd_same⟩, z3.tup t12, u12.fz z3, ⟨zs, hp _ _ e2 hdp, k52.fz z3⟩⟩⟩
theorem b_jundo (T : Tx K mg A) : L2.Binds K A.d_j_undo ["self"] [] := T.F_j_undo.binds fun _ _ _ _ _ _ us hl => match us, hl with | [_], _ => rfl
def spLback (A : Ad) : Sp := fun vs H Q _ => ∃ (p w t u d : Nat) (ps : List Pr) (es : List (Deed × List Pr)), vs = [.ref p] ∧ QAt A.CJ H p w t u d 0 ps es ∧ es.length ≤ 900 ∧
  ((es = [] ∧ Q .non H) ∨ ∃ es0 de ps0, es = es0 ++ [(de, ps0)] ∧ ∀ (H' : Hp) (t' u' e : Addr), Fr p d H H' → (∀ Ts, Tabs Ts H → Tabs Ts H') → H' e = some (.tup (dvs de)) → QAt A.CJ H' p w t' u' d 0 ps0 es0 → Q (.ref e) H')
theorem ok_lback (T : Tx K mg A) : FnOk P w K mg base CX0 3 A.f__law_back A.d__law_back ["queue"] (spLback A) := by
  refine T.F__law_back.ok sc__law_back (fun vs H Q E h => ?_) (fun cdv B outer s H vs Q E hr h => ?_)
  · obtain ⟨p, w, t, u, d, ps, es, rfl, _⟩ := h
    rfl
  · obtain ⟨p, w, t, u, d, ps, es, rfl, hQ, hel, q⟩ := h
    have nd := sc__law_back.nd
    refine ⟨_, (pss_one (ps_try_only rfl rfl ⟨rfl, by decide, .inl T.mCN⟩ takes0 (fun W pn xe tk _ => (pss_one (ps_ret (pe_methS0 (pv 0) T.cTJ T.M_j_undo (ok_jundo T) (hr.mono (by decide)) (b_jundo T) (fun σ => passAt tk σ))))) (fun a oe cls d pn _ _ => (pss_one (ps_ret pe_non))))), ?_⟩
    obtain ⟨dx, m, h1⟩ := id hQ.ob
    refine ⟨_, rfl, p, dx, _, rfl, h1, fdJ_no _ _ _ _ _ _ (by decide +kernel) (by decide +kernel) (by decide +kernel) (by decide +kernel) (by decide +kernel) (by decide +kernel), p, w, t, u, d, ps, es, rfl, hQ, hel, ?_⟩
    rcases q with ⟨rfl, q⟩ | ⟨es0, de, ps0, rfl, q⟩
    · exact .inl ⟨rfl, true, T.eXN, (fun _ a ha => q), (fun z => nomatch z)⟩
    · exact .inr ⟨es0, de, ps0, rfl, q⟩
theorem b_lback (T : Tx K mg A) : L2.Binds K A.d__law_back ["queue"] [] := T.F__law_back.binds fun _ _ _ _ _ _ us hl => match us, hl with | [_], _ => rfl

end
end Tw

set_option Elab.async false
set_option linter.all false
set_option maxRecDepth 100000
set_option maxHeartbeats 2000000
namespace Tw
open PySem PySem.Spec PyProof.Rows L2
section
variable {P : Program} {w : World} {K : PySem.W.Frag} {mg : Str → Option Value} {base : Heap} {A : Ad}
open LamX (ExtN Tabs TabS)
def wordsL : List Str := ["a", "b", "ab", "zz", "queue", "abcdefgh", "x", "y", "z", "take", "put", "drop", "hh", "kk", "m"]
def DeedOk : Deed → Prop
  | .put n _ => n ∈ wordsL
  | .chg n _ => n ∈ wordsL
  | .drp n => n ∈ wordsL
  | .tak => True
/-- the deeds of a journal, told -/
inductive DeedsAt (H : Hp) : List V → List Deed → Prop
  | nil : DeedsAt H [] []
  | cons {b : Addr} {xs : List V} {e : Deed} {es : List Deed} : H b = some (.tup (dvs e)) → DeedsAt H xs es → DeedsAt H (.ref b :: xs) (e :: es)
def Fr3 (p d R : Addr) (H H' : Hp) : Prop := ∀ b o, H b = some o → (∀ ps, o ≠ .tbl ps) → b ≠ p → b ≠ d → b ≠ R → H' b = some o
theorem Fz.same {H H' : Hp} (s : Same H H') : Fz H H' := fun b o h _ _ _ => s b o h
def keyAt (ks : List Int) (p : Nat) : Int := ks.getD p 0
def HeapL (n w : Nat) (ks : List Int) : Prop := ∀ c, 1 ≤ c → c < n → keyAt ks ((c - 1) / w) ≤ keyAt ks c
def KeysB (ps : List Pr) : Prop := ∀ z ∈ ps, -1000000000 ≤ z.1 ∧ z.1 ≤ 1000000000
abbrev Zr := Addr × Pr
def prs (zs : List Zr) : List Pr := zs.map (·.2)
def kz (zs : List Zr) : List Int := keys (prs zs)
def WordsZ (zs : List Zr) : Prop := ∀ z ∈ zs, z.2.2 ∈ wordsL
structure GoodZ (w : Nat) (zs : List Zr) : Prop where
  len : zs.length ≤ 12
  wd : WordsZ zs
  nd : (names (prs zs)).Nodup
  kb : KeysB (prs zs)
  hp : HeapL (kz zs).length w (kz zs)
/-- rows of pairs, apart from one more list -/
structure Rows (d : Addr) (H : Hp) (R : Addr) (zs : List Zr) : Prop where
  nd : R ≠ d
  a : H R = some (.lst (zs.map fun z => V.ref z.1))
  it : ∀ z ∈ zs, z.1 ≠ d ∧ z.1 ≠ R ∧ H z.1 = some (.lst [.int z.2.1, .str z.2.2])
def dds : Deed → List PyData
  | .put n k => [.str "put", .str n, .int k]
  | .chg n k => [.str "change", .str n, .int k]
  | .drp n => [.str "drop", .str n]
  | .tak => [.str "take"]
theorem word_ok : ∀ n ∈ wordsL, (decide (1 ≤ n.length) && (decide (n.length ≤ 8) && (n.cps.toList.all fun c => decide (c ∈ ("abcdefghijklmnopqrstuvwxyz" : Str).cps.toList)))) = true ∧ (PyData.str n).canLay0 = true := by decide +kernel
theorem deed_lay : ∀ de, DeedOk de → (PyData.tuple (dds de)).canLay0 = true := fun de h => by
  have a : ∀ s : Str, s ∈ (["put", "change", "drop", "take"] : List Str) → (PyData.str s).canLay0 = true := by decide +kernel
  cases de with
  | put n k => simp only [dds, PyData.canLay0, PyData.canLayAll0] at *; have := (word_ok n h).2; have := a "put" (by decide +kernel); simp_all [PyData.canLay0]
  | chg n k => simp only [dds, PyData.canLay0, PyData.canLayAll0] at *; have := (word_ok n h).2; have := a "change" (by decide +kernel); simp_all [PyData.canLay0]
  | drp n => simp only [dds, PyData.canLay0, PyData.canLayAll0] at *; have := (word_ok n h).2; have := a "drop" (by decide +kernel); simp_all [PyData.canLay0]
  | tak => simp only [dds, PyData.canLay0, PyData.canLayAll0] at *; have := a "take" (by decide +kernel); simp_all [PyData.canLay0]
theorem extN_of {H H' : Hp} (s : Same H H') : ExtN H H' := fun b o e _ => s b o e
theorem m1 : ¬ (("row" : Str) = "way") := by decide +kernel
theorem m2 : ¬ (("row" : Str) = "looks") := by decide +kernel
theorem m3 : ¬ (("way" : Str) = "looks") := by decide +kernel
/-- the places of a tree -/
def pl (n : Nat) : List V := (List.range n).map fun i => V.int (i : Nat)
theorem q3 : ¬ (("stops" : Str) = "changes") := by decide +kernel
theorem tabs_but {T : List (Addr × Str)} {H H' : Hp} {d : Addr} {xs : List V} (t : Tabs T H) (h : H d = some (.lst xs)) (b : But d H H') : Tabs T H' := fun p hp => by
  obtain ⟨ps, h1, h2, h3⟩ := t p hp
  refine ⟨ps, b _ _ (ne_of h1 h (by intro z; cases z)) h1, h2, fun pos cv hc => ?_⟩
  obtain ⟨c, e1, e2⟩ := h3 pos cv hc
  exact ⟨c, e1, b _ _ (ne_of e2 h (by intro z; unfold LamX.CodeO at z; cases z)) e2⟩
theorem tabs_butL {Ts : List (Addr × Str)} {H H' : Hp} {R : Addr} {xs : List V} (t : Tabs Ts H) (hR : H R = some (.lst xs)) (b : But R H H') : Tabs Ts H' := tabs_but t hR b
theorem But.put {R : Addr} {H : Hp} (o : HO) : But R H (upd H R o) := fun c u n h => by rw [upd_ne n]; exact h
theorem But.same {R : Addr} {H H' : Hp} (s : Same H H') : But R H H' := fun c o _ h => s c o h
theorem DeedsAt.fz {H H' : Hp} {xs : List V} {es : List Deed} (h : DeedsAt H xs es) (f : Fz H H') : DeedsAt H' xs es := by
  induction h with
  | nil => exact .nil
  | cons h1 _ ih => exact .cons (f.tup h1) ih
theorem Fr.same {p d : Addr} {H H' : Hp} (s : Same H H') : Fr p d H H' := fun b o h _ _ _ => s b o h
theorem Fr3.of {p d R : Addr} {H H1 H2 : Hp} (f : Fr p d H H1) (b : But R H1 H2) : Fr3 p d R H H2 := fun c o h n k1 k2 k3 => b c o k3 (f c o h n k1 k2)
theorem Fr3.same {p d R : Addr} {H H' : Hp} (s : Same H H') : Fr3 p d R H H' := fun c o h _ _ _ _ => s c o h
theorem Fr3.trans {p d R : Addr} {H H1 H2 : Hp} (a : Fr3 p d R H H1) (b : Fr3 p d R H1 H2) : Fr3 p d R H H2 := fun c o h n k1 k2 k3 => b c o (a c o h n k1 k2 k3) n k1 k2 k3
theorem Fz.ext {H H' : Hp} (s : LamX.ExtN H H') : Fz H H' := fun b o h n _ _ => s b o h n
theorem keys_len (ps : List Pr) : (keys ps).length = ps.length := List.length_map ..
theorem prs_len (zs : List Zr) : (prs zs).length = zs.length := List.length_map ..
theorem kz_len (zs : List Zr) : (kz zs).length = zs.length := by unfold kz; rw [keys_len, prs_len]
theorem GoodZ.nil (w : Nat) : GoodZ w [] := ⟨Nat.zero_le _, fun z hz => absurd hz (List.not_mem_nil), List.nodup_nil, fun z hz => absurd hz (List.not_mem_nil), fun c h1 h2 => by rw [kz_len, List.length_nil] at h2; omega⟩
def swG {α : Type} (d : α) (xs : List α) (a b : Nat) : List α := (xs.set a (xs.getD b d)).set b (xs.getD a d)
def mvG {α : Type} (d : α) : List Nat → List α → List α
  | a :: b :: l, xs => mvG d (b :: l) (swG d xs a b)
  | _, xs => xs
theorem swG_len {α : Type} (d : α) (xs : List α) (a b : Nat) : (swG d xs a b).length = xs.length := by unfold swG; rw [List.length_set, List.length_set]
theorem mvG_len {α : Type} (d : α) : ∀ (l : List Nat) (xs : List α), (mvG d l xs).length = xs.length
  | [], _ => rfl
  | [_], _ => rfl
  | a :: b :: l, xs => by rw [mvG, mvG_len d (b :: l), swG_len]
theorem getD_at {α : Type} (d : α) {xs : List α} {i : Nat} (h : i < xs.length) : xs.getD i d = xs[i] := by
  rw [List.getD_eq_getElem?_getD, List.getElem?_eq_getElem h]
  rfl
theorem swG_perm {α : Type} (d : α) {xs : List α} {a b : Nat} (ha : a < xs.length) (hb : b < xs.length) : (swG d xs a b).Perm xs := by
  unfold swG
  rw [getD_at d ha, getD_at d hb]
  exact List.set_set_perm ha hb
theorem mvG_perm {α : Type} (d : α) : ∀ (l : List Nat) (xs : List α), (∀ x ∈ l, x < xs.length) → (mvG d l xs).Perm xs
  | [], xs, _ => List.Perm.refl _
  | [_], xs, _ => List.Perm.refl _
  | a :: b :: l, xs, h => by
    rw [mvG]
    have ha := h a List.mem_cons_self
    have hb := h b (List.mem_cons_of_mem _ List.mem_cons_self)
    exact (mvG_perm d (b :: l) _ (fun x hx => by rw [swG_len]; exact h x (List.mem_cons_of_mem _ hx))).trans (swG_perm d ha hb)
def swp (ks : List Int) (a b : Nat) : List Int := (ks.set a (keyAt ks b)).set b (keyAt ks a)
/-- the way up, from the place on -/
def upW (w : Nat) : Nat → List Int → Nat → List Nat
  | 0, _, p => [p]
  | f + 1, ks, p => if p = 0 then [p] else if keyAt ks p < keyAt ks ((p - 1) / w) then p :: upW w f (swp ks p ((p - 1) / w)) ((p - 1) / w) else [p]
/-- the ways of a put, of a set key, of a drop -/
def putP (w : Nat) (ks : List Int) (k : Int) : List Nat := upW w 20 (ks ++ [k]) ks.length
def putG {α : Type} (d : α) (w : Nat) (ks : List Int) (k : Int) (x : α) (xs : List α) : List α := mvG d (putP w ks k) (xs ++ [x])
theorem par_lt {w c : Nat} (h : 1 ≤ c) : (c - 1) / w < c := Nat.lt_of_le_of_lt (Nat.div_le_self _ _) (by omega)
theorem upW_le (w : Nat) : ∀ f ks p x, x ∈ upW w f ks p → x ≤ p
  | 0, ks, p, x, h => by
    rw [upW, List.mem_singleton] at h
    omega
  | f + 1, ks, p, x, h => by
    unfold upW at h
    split at h
    · rw [List.mem_singleton] at h
      omega
    · split at h
      · rcases List.mem_cons.mp h with h | h
        · omega
        · have := upW_le w f _ _ x h
          have := par_lt (w := w) (c := p) (by omega)
          omega
      · rw [List.mem_singleton] at h
        omega
theorem putP_lt (w : Nat) (ks : List Int) (k : Int) : ∀ x ∈ putP w ks k, x < ks.length + 1 := fun x h => by
  have := upW_le w 20 _ _ x h
  omega
def goUp (w : Nat) : Nat → List Int → Nat → List Nat → Nat → List Int × List Nat × Nat
  | 0, ks, _, way, lk => (ks, way, lk)
  | f + 1, ks, p, way, lk => if p = 0 then (ks, way, lk) else
      if keyAt ks p < keyAt ks ((p - 1) / w) then goUp w f (swp ks p ((p - 1) / w)) ((p - 1) / w) (way ++ [(p - 1) / w]) (lk + 1) else (ks, way, lk + 1)
theorem swp_len (ks : List Int) (a b : Nat) : (swp ks a b).length = ks.length := by unfold swp; rw [List.length_set, List.length_set]
theorem keyAt_set {ks : List Int} {a p : Nat} {v : Int} (ha : a < ks.length) : keyAt (ks.set a v) p = if p = a then v else keyAt ks p := by
  unfold keyAt
  rw [List.getD_eq_getElem?_getD, List.getD_eq_getElem?_getD, List.getElem?_set]
  by_cases h : a = p
  · rw [if_pos h, if_pos (by omega), if_pos h.symm]
    rfl
  · rw [if_neg h, if_neg (fun z => h z.symm)]
theorem keyAt_swp {ks : List Int} {a b p : Nat} (ha : a < ks.length) (hb : b < ks.length) : keyAt (swp ks a b) p = if p = b then keyAt ks a else if p = a then keyAt ks b else keyAt ks p := by
  unfold swp
  rw [keyAt_set (by rw [List.length_set]; exact hb), keyAt_set ha]
theorem goUp_go {w f : Nat} {ks : List Int} {p : Nat} {way : List Nat} {lk : Nat} (h0 : p ≠ 0) (h : keyAt ks p < keyAt ks ((p - 1) / w)) : goUp w (f + 1) ks p way lk = goUp w f (swp ks p ((p - 1) / w)) ((p - 1) / w) (way ++ [(p - 1) / w]) (lk + 1) := by
  rw [goUp, if_neg h0, if_pos h]
theorem goUp_stay {w f : Nat} {ks : List Int} {p : Nat} {way : List Nat} {lk : Nat} (h0 : p ≠ 0) (h : ¬ keyAt ks p < keyAt ks ((p - 1) / w)) : goUp w (f + 1) ks p way lk = (ks, way, lk + 1) := by
  rw [goUp, if_neg h0, if_neg h]
theorem goUp_root {w f : Nat} {ks : List Int} {way : List Nat} {lk : Nat} : goUp w f ks 0 way lk = (ks, way, lk) := by
  cases f with
  | zero => rfl
  | succ f => rw [goUp, if_pos rfl]
theorem up_good {n w : Nat} : ∀ (f : Nat) (ks : List Int) (cur : Nat) (way : List Nat) (lk : Nat), ks.length = n → cur < n → cur ≤ f →
    (∀ c, 1 ≤ c → c < n → c ≠ cur → keyAt ks ((c - 1) / w) ≤ keyAt ks c) → (∀ c, 1 ≤ c → c < n → (c - 1) / w = cur → cur ≠ 0 → keyAt ks ((cur - 1) / w) ≤ keyAt ks c) → HeapL n w (goUp w f ks cur way lk).1
  | 0, ks, cur, way, lk, hl, hc, hf, g, up => fun c h1 h2 => g c h1 h2 (by omega)
  | f + 1, ks, cur, way, lk, hl, hc, hf, g, up => by
    by_cases h0 : cur = 0
    · subst h0
      rw [goUp_root]
      exact fun c h1 h2 => g c h1 h2 (by omega)
    · have hp := par_lt (w := w) (c := cur) (by omega)
      by_cases hlt : keyAt ks cur < keyAt ks ((cur - 1) / w)
      · rw [goUp_go h0 hlt]
        generalize ep : (cur - 1) / w = p at *
        have ka : cur < ks.length := by omega
        have kb : p < ks.length := by omega
        refine up_good f _ p _ _ (by rw [swp_len]; exact hl) (by omega) (by omega) (fun c h1 h2 hcp => ?_) (fun c h1 h2 hcp hp0 => ?_)
        · rw [keyAt_swp ka kb, keyAt_swp ka kb, if_neg hcp]
          by_cases ec : c = cur
          · subst ec
            rw [ep, if_pos rfl, if_pos rfl]
            omega
          · rw [if_neg ec]
            by_cases e1 : (c - 1) / w = p
            · rw [if_pos e1]
              have := g c h1 h2 ec
              rw [e1] at this
              omega
            · rw [if_neg e1]
              by_cases e2 : (c - 1) / w = cur
              · rw [if_pos e2]
                exact up c h1 h2 e2 h0
              · rw [if_neg e2]
                exact g c h1 h2 ec
        · have hpp := par_lt (w := w) (c := p) (by omega)
          have hc1 := par_lt (w := w) h1
          have a := g p (by omega) (by omega) (by omega)
          rw [keyAt_swp ka kb, keyAt_swp ka kb, if_neg (by omega), if_neg (by omega), if_neg (by omega)]
          by_cases ec : c = cur
          · rw [if_pos ec]
            exact a
          · rw [if_neg ec]
            have b := g c h1 h2 ec
            rw [hcp] at b
            omega
      · rw [goUp_stay h0 hlt]
        intro c h1 h2
        by_cases ec : c = cur
        · subst ec
          exact Int.not_lt.mp hlt
        · exact g c h1 h2 ec
theorem swp_perm {ks : List Int} {a b : Nat} (ha : a < ks.length) (hb : b < ks.length) : (swp ks a b).Perm ks := by
  have e1 : keyAt ks a = ks[a] := by unfold keyAt; rw [List.getD_eq_getElem?_getD, List.getElem?_eq_getElem ha]; rfl
  have e2 : keyAt ks b = ks[b] := by unfold keyAt; rw [List.getD_eq_getElem?_getD, List.getElem?_eq_getElem hb]; rfl
  unfold swp
  rw [e1, e2]
  exact List.set_set_perm ha hb
theorem up_perm {w : Nat} : ∀ (f : Nat) (ks : List Int) (cur : Nat) (way : List Nat) (lk : Nat), cur < ks.length → ((goUp w f ks cur way lk).1).Perm ks
  | 0, ks, cur, way, lk, hc => List.Perm.refl _
  | f + 1, ks, cur, way, lk, hc => by
    by_cases h0 : cur = 0
    · subst h0
      rw [goUp_root]
    · have hp := par_lt (w := w) (c := cur) (by omega)
      by_cases hlt : keyAt ks cur < keyAt ks ((cur - 1) / w)
      · rw [goUp_go h0 hlt]
        exact (up_perm f _ _ _ _ (by rw [swp_len]; omega)).trans (swp_perm hc (by omega))
      · rw [goUp_stay h0 hlt]
theorem keyAt_app {ks : List Int} {k : Int} {p : Nat} (h : p < ks.length) : keyAt (ks ++ [k]) p = keyAt ks p := by
  unfold keyAt
  rw [List.getD_eq_getElem?_getD, List.getD_eq_getElem?_getD, List.getElem?_append_left h]
theorem push_ok {w : Nat} {ks : List Int} {k : Int} (hl : ks.length < 12) (h : HeapL ks.length w ks) : HeapL (ks.length + 1) w (goUp w 20 (ks ++ [k]) ks.length [ks.length] 0).1 ∧ ((goUp w 20 (ks ++ [k]) ks.length [ks.length] 0).1).Perm (ks ++ [k]) := by
  have hl2 : (ks ++ [k]).length = ks.length + 1 := by rw [List.length_append]; rfl
  refine ⟨up_good 20 _ _ _ _ hl2 (by omega) (by omega) (fun c h1 h2 hc => ?_) (fun c h1 h2 hc _ => ?_), up_perm 20 _ _ _ _ (by omega)⟩
  · have := par_lt (w := w) h1
    rw [keyAt_app (by omega), keyAt_app (by omega)]
    exact h c h1 (by omega)
  · have := par_lt (w := w) h1
    omega
theorem upW_head (w : Nat) : ∀ f ks p, ∃ l, upW w f ks p = p :: l
  | 0, ks, p => ⟨[], rfl⟩
  | f + 1, ks, p => by
    unfold upW
    split
    · exact ⟨_, rfl⟩
    · split <;> exact ⟨_, rfl⟩
theorem goUp_upW (w : Nat) : ∀ f ks p pre lk, (goUp w f ks p (pre ++ [p]) lk).1 = mvG 0 (upW w f ks p) ks ∧ (goUp w f ks p (pre ++ [p]) lk).2.1 = pre ++ upW w f ks p
  | 0, ks, p, pre, lk => ⟨rfl, rfl⟩
  | f + 1, ks, p, pre, lk => by
    by_cases h0 : p = 0
    · rw [goUp, upW, if_pos h0, if_pos h0]
      exact ⟨rfl, rfl⟩
    · by_cases hlt : keyAt ks p < keyAt ks ((p - 1) / w)
      · rw [goUp_go h0 hlt, upW, if_neg h0, if_pos hlt]
        obtain ⟨e1, e2⟩ := goUp_upW w f (swp ks p ((p - 1) / w)) ((p - 1) / w) (pre ++ [p]) (lk + 1)
        obtain ⟨l, el⟩ := upW_head w f (swp ks p ((p - 1) / w)) ((p - 1) / w)
        refine ⟨?_, ?_⟩
        · rw [e1, el, mvG]
          rfl
        · rw [e2, List.append_assoc]
          rfl
      · rw [goUp_stay h0 hlt, upW, if_neg h0, if_neg hlt]
        exact ⟨rfl, rfl⟩
theorem put_heap {w : Nat} {ks : List Int} {k : Int} (hl : ks.length < 12) (h : HeapL ks.length w ks) : HeapL (ks.length + 1) w (putG 0 w ks k k ks) := by
  have := (push_ok (k := k) hl h).1
  rw [show ([ks.length] : List Nat) = [] ++ [ks.length] from rfl, (goUp_upW w 20 (ks ++ [k]) ks.length [] 0).1] at this
  exact this
abbrev d0 : Pr := (0, ⟨#[]⟩)
abbrev z0 : Zr := (0, d0)
theorem getD_mapG {α β : Type} (f : α → β) (d : α) (xs : List α) (i : Nat) : (xs.map f).getD i (f d) = f (xs.getD i d) := by
  rw [List.getD_eq_getElem?_getD, List.getD_eq_getElem?_getD, List.getElem?_map]
  cases xs[i]? <;> rfl
theorem swG_map {α β : Type} (f : α → β) (d : α) (xs : List α) (a b : Nat) : (swG d xs a b).map f = swG (f d) (xs.map f) a b := by
  unfold swG
  rw [List.map_set, List.map_set, getD_mapG, getD_mapG]
theorem mvG_map {α β : Type} (f : α → β) (d : α) : ∀ (l : List Nat) (xs : List α), (mvG d l xs).map f = mvG (f d) l (xs.map f)
  | [], _ => rfl
  | [_], _ => rfl
  | a :: b :: l, xs => by rw [mvG, mvG_map f d (b :: l), swG_map, ← mvG]
theorem kz_mv (l : List Nat) (zs : List Zr) : kz (mvG z0 l zs) = mvG 0 l (kz zs) := by
  unfold kz keys prs
  rw [List.map_map, List.map_map]
  exact mvG_map (fun z : Zr => z.2.1) z0 l zs
theorem kz_snoc (zs : List Zr) (z : Zr) : kz (zs ++ [z]) = kz zs ++ [z.2.1] := by unfold kz keys prs; simp
theorem names_prs (zs : List Zr) : names (prs zs) = zs.map fun z => z.2.2 := by unfold names prs; rw [List.map_map]; rfl
theorem good_perm {w : Nat} {zs zs' : List Zr} (p : zs'.Perm zs) (h1 : zs.length ≤ 12) (h2 : WordsZ zs) (h3 : (names (prs zs)).Nodup) (h4 : KeysB (prs zs)) (h5 : HeapL (kz zs').length w (kz zs')) : GoodZ w zs' := by
  refine ⟨by rw [p.length_eq]; exact h1, fun z hz => h2 z (p.mem_iff.mp hz), ?_, fun z hz => ?_, h5⟩
  · rw [names_prs] at h3 ⊢
    exact (p.map _).nodup_iff.mpr h3
  · obtain ⟨y, hy, rfl⟩ := List.mem_map.mp hz
    exact h4 _ (List.mem_map.mpr ⟨y, p.mem_iff.mp hy, rfl⟩)
theorem GoodZ.put {w : Nat} {zs : List Zr} (g : GoodZ w zs) {k : Int} {n : Str} {a : Addr} (hl : zs.length < 12) (hn : n ∈ wordsL) (hnn : n ∉ names (prs zs)) (hk : -1000000000 ≤ k ∧ k ≤ 1000000000) : GoodZ w (putG z0 w (kz zs) k (a, (k, n)) zs) := by
  have e : kz (putG z0 w (kz zs) k (a, (k, n)) zs) = putG 0 w (kz zs) k k (kz zs) := by
    unfold putG
    rw [kz_mv, kz_snoc]
  refine good_perm (mvG_perm z0 _ _ fun x hx => ?_) ?_ ?_ ?_ ?_ ?_
  · have := putP_lt w (kz zs) k x hx
    rw [kz_len] at this
    rw [List.length_append, List.length_singleton]
    exact this
  · rw [List.length_append, List.length_singleton]
    omega
  · intro z hz
    rcases List.mem_append.mp hz with h | h
    · exact g.wd z h
    · rw [List.mem_singleton.mp h]
      exact hn
  · have h3 := g.nd
    rw [names_prs] at h3 hnn ⊢
    rw [List.map_append, List.nodup_append]
    refine ⟨h3, by simp, fun x hx y hy => ?_⟩
    rw [List.map_singleton, List.mem_singleton] at hy
    rw [hy]
    exact fun z => hnn (by have z : x = n := z; rw [← z]; exact hx)
  · intro z hz
    obtain ⟨y, hy, rfl⟩ := List.mem_map.mp hz
    rcases List.mem_append.mp hy with h | h
    · exact g.kb _ (List.mem_map.mpr ⟨y, h, rfl⟩)
    · rw [List.mem_singleton.mp h]
      exact hk
  · have := put_heap (k := k) (by rw [kz_len]; exact hl) g.hp
    have e2 : (putG 0 w (kz zs) k k (kz zs)).length = (kz zs).length + 1 := by
      unfold putG
      rw [mvG_len, List.length_append, List.length_singleton]
    rw [e, e2]
    exact this
theorem QAt.ext {C : Addr} {H H' : Hp} {p w t u d b : Nat} {ps : List Pr} {es : List (Deed × List Pr)} (h : QAt C H p w t u d b ps es) (e : LamX.ExtN H H') : QAt C H' p w t u d b ps es := by
  obtain ⟨⟨dx, m, g1⟩, g2, g3, ⟨xs, g4, g5⟩⟩ := h
  exact ⟨⟨dx, m, e _ _ g1 (fun _ z => nomatch z)⟩, (Fz.ext e).tup g2, g3.fz (Fz.ext e), ⟨xs, e _ _ g4 (fun _ z => nomatch z), g5.fz (Fz.ext e)⟩⟩
theorem QAt.same {C : Addr} {H H' : Hp} {p w t u d b : Nat} {ps : List Pr} {es : List (Deed × List Pr)} (h : QAt C H p w t u d b ps es) (s : Same H H') : QAt C H' p w t u d b ps es := h.ext (extN_of s)
theorem Rows.ext {d : Addr} {H H' : Hp} {R : Addr} {zs : List Zr} (h : Rows d H R zs) (e : LamX.ExtN H H') : Rows d H' R zs := ⟨h.nd, e _ _ h.a (fun _ z => nomatch z), fun z hz => let ⟨a, b, c⟩ := h.it z hz; ⟨a, b, e _ _ c (fun _ z => nomatch z)⟩⟩
theorem Rows.fr {p d C dx : Addr} {fs : List (Str × V)} {H H' : Hp} {R : Addr} {zs : List Zr} (h : Rows d H R zs) (f : Fr p d H H') (hp : H p = some (.ins C dx fs)) : Rows d H' R zs :=
  ⟨h.nd, f _ _ h.a (fun _ z => nomatch z) (ne_of h.a hp (by intro z; cases z)) h.nd, fun z hz => let ⟨a, b, c⟩ := h.it z hz; ⟨a, b, f _ _ c (fun _ z => nomatch z) (ne_of c hp (by intro z; cases z)) a⟩⟩
theorem Rows.same {d : Addr} {H H' : Hp} {R : Addr} {zs : List Zr} (h : Rows d H R zs) (s : Same H H') : Rows d H' R zs := ⟨h.nd, s _ _ h.a, fun z hz => let ⟨a, b, c⟩ := h.it z hz; ⟨a, b, s _ _ c⟩⟩
end
end Tw

set_option Elab.async false
set_option linter.all false
set_option maxRecDepth 100000
set_option maxHeartbeats 2000000
namespace Tw
open PySem PySem.Spec PyProof.Rows L2
section
variable {P : Program} {w : World} {K : PySem.W.Frag} {mg : Str → Option Value} {base : Heap} {A : Ad}
open LamX (ExtN Tabs TabS)
/-! backups of rows: Rows GoodZ Fr3 But tabs_butL QAt DeedsAt -/
def Fr4 (p d R B : Addr) (H H' : Hp) : Prop := ∀ b o, H b = some o → (∀ ps, o ≠ .tbl ps) → b ≠ p → b ≠ d → b ≠ R → b ≠ B → H' b = some o
theorem Fr4.same {p d R B : Addr} {H H' : Hp} (s : Same H H') : Fr4 p d R B H H' := fun c o h _ _ _ _ _ => s c o h
theorem Fr4.of3 {p d R B : Addr} {H H' : Hp} (f : Fr3 p d R H H') : Fr4 p d R B H H' := fun c o h n k1 k2 k3 _ => f c o h n k1 k2 k3
theorem Fr4.put {p d R B : Addr} {H : Hp} (o : HO) : Fr4 p d R B H (upd H B o) := fun c u h _ _ _ _ k => by rw [upd_ne k]; exact h
theorem Fr4.trans {p d R B : Addr} {H H1 H2 : Hp} (a : Fr4 p d R B H H1) (b : Fr4 p d R B H1 H2) : Fr4 p d R B H H2 := fun c o h n k1 k2 k3 k4 => b c o (a c o h n k1 k2 k3 k4) n k1 k2 k3 k4
def NT (H0 : Hp) (x : Addr) : Prop := ∀ o, H0 x = some o → (∀ ps, o ≠ .tbl ps) → False
theorem NT.ne {H0 : Hp} {x c : Addr} {o : HO} (h : NT H0 x) (e : H0 c = some o) (n : ∀ ps, o ≠ .tbl ps) : c ≠ x := fun z => h o (by rw [← z]; exact e) n
theorem NT.of {H0 H : Hp} {x : Addr} (e : LamX.ExtN H0 H) (n : H x = none) : NT H0 x := fun o h k => by
  rw [e _ _ h k] at n
  cases n
abbrev Bk := Addr × List Zr
theorem pair_ne {α : Type} {H : Hp} {x y : Addr} {k : Int} {n : Str} {l : List α} {f : α → Addr} (h1 : H x = some (.lst [.int k, .str n])) (h2 : H y = some (.lst (l.map fun z => V.ref (f z)))) : x ≠ y := fun z => by
  rw [z, h2] at h1
  cases l with
  | nil => cases h1
  | cons a l => cases h1
structure BK (d R B : Addr) (H0 H : Hp) (w : Nat) (bs : List Bk) : Prop where
  it : ∀ b ∈ bs, Rows d H b.1 b.2 ∧ GoodZ w b.2 ∧ b.1 ≠ R ∧ b.1 ≠ B ∧ NT H0 b.1
  nd : (bs.map (·.1)).Nodup
theorem BK.fr {α β : Type} {p d R B C dx : Addr} {fs : List (Str × V)} {H0 H H' : Hp} {w : Nat} {bs : List Bk} {l1 : List α} {f1 : α → Addr} {l2 : List β} {f2 : β → Addr} (h : BK d R B H0 H w bs) (f : Fr4 p d R B H H') (hp : H p = some (.ins C dx fs)) (hR : H R = some (.lst (l1.map fun z => V.ref (f1 z)))) (hB : H B = some (.lst (l2.map fun z => V.ref (f2 z)))) : BK d R B H0 H' w bs := by
  refine ⟨fun b hb => ?_, h.nd⟩
  obtain ⟨r, g, n1, n2, n3⟩ := h.it b hb
  refine ⟨⟨r.nd, f _ _ r.a (fun _ z => nomatch z) (ne_of r.a hp (by intro z; cases z)) r.nd n1 n2, fun z hzb => ?_⟩, g, n1, n2, n3⟩
  obtain ⟨a1, a2, a3⟩ := r.it z hzb
  exact ⟨a1, a2, f _ _ a3 (fun _ z => nomatch z) (ne_of a3 hp (by intro z; cases z)) a1 (pair_ne a3 hR) (pair_ne a3 hB)⟩
structure UI (A : Ad) (K : PySem.W.Frag) (H0 H : Hp) (p d R P B w : Addr) (zs : List Zr) (es : List (Deed × List Pr)) (t u : Addr) (xs : List V) (bs : List Bk) (ds : List Deed) (ps2 : List (List Pr)) : Prop where
  q : QAt A.CJ H p w t u d 0 (prs zs) es
  r : Rows d H R zs
  g : GoodZ w zs
  dk : ∀ e ∈ es, DeedOk e.1
  pl : H P = some (.lst xs)
  pd : DeedsAt H xs ds
  pn : P ≠ d ∧ P ≠ R ∧ P ≠ B
  tb : Tabs (TT A) H
  ex : ExtN H0 H
  n0 : NT H0 p ∧ NT H0 d ∧ NT H0 R ∧ NT H0 B
  bn : B ≠ d ∧ B ≠ R
  bl : H B = some (.lst (bs.map fun b => V.ref b.1))
  bk : BK d R B H0 H w bs
  be : bs.map (fun b => prs b.2) = ps2
  st : (es.map (·.2) ++ [prs zs]).head? = some []
section
variable {A : Ad} {K : PySem.W.Frag} {H0 H H' : Hp} {p d R P B w : Addr} {zs : List Zr} {es : List (Deed × List Pr)} {t u : Addr} {xs : List V} {bs : List Bk} {ds : List Deed} {ps2 : List (List Pr)}
theorem UI.same (h : UI A K H0 H p d R P B w zs es t u xs bs ds ps2) (s : Same H H') : UI A K H0 H' p d R P B w zs es t u xs bs ds ps2 := by
  obtain ⟨dx, fs, hx⟩ := h.q.ins
  exact ⟨h.q.same s, h.r.same s, h.g, h.dk, s _ _ h.pl, h.pd.fz (Fz.same s), h.pn, h.tb.ext s, h.ex.trans (extN_of s), h.n0, h.bn, s _ _ h.bl, h.bk.fr (Fr4.same (p := p) s) hx h.r.a h.bl, h.be, h.st⟩
theorem UI.fzr (h : UI A K H0 H p d R P B w zs es t u xs bs ds ps2) (f : Fr4 p d R B H H') : Fz H H' := by
  obtain ⟨dx, fs, hx⟩ := h.q.ins
  obtain ⟨ysd0, hd0, _⟩ := id h.q.dn
  exact fun c o e n1 n2 n3 => f c o e n1 (fun z => by rw [z, hx] at e; exact n2 _ _ _ (Option.some.inj e).symm) (fun z => by rw [z, hd0] at e; exact n3 _ (Option.some.inj e).symm) (fun z => by rw [z, h.r.a] at e; exact n3 _ (Option.some.inj e).symm) (fun z => by rw [z, h.bl] at e; exact n3 _ (Option.some.inj e).symm)
theorem UI.extf (h : UI A K H0 H p d R P B w zs es t u xs bs ds ps2) (f : Fr4 p d R B H H') : ExtN H0 H' := fun c o e n =>
  f c o (h.ex c o e n) n (h.n0.1.ne e n) (h.n0.2.1.ne e n) (h.n0.2.2.1.ne e n) (h.n0.2.2.2.ne e n)
/-- behind a deed -/
theorem UI.done {zs' : List Zr} {t' u' : Addr} {de : Deed} (h : UI A K H0 H p d R P B w zs es t u xs bs ds ps2) (f : Fr3 p d R H H') (tb : Tabs (TT A) H') (q : QAt A.CJ H' p w t' u' d 0 (prs zs') (es ++ [(de, prs zs)])) (r : Rows d H' R zs') (g : GoodZ w zs') (hd : DeedOk de) :
    UI A K H0 H' p d R P B w zs' (es ++ [(de, prs zs)]) t' u' xs bs ds ps2 := by
  obtain ⟨dx, fs, hx⟩ := h.q.ins
  have f4 : Fr4 p d R B H H' := Fr4.of3 f
  refine ⟨q, r, g, fun e he => ?_, f _ _ h.pl (fun _ z => nomatch z) (ne_of h.pl hx (by intro z; cases z)) h.pn.1 h.pn.2.1, h.pd.fz (h.fzr f4), h.pn, tb, h.extf f4, h.n0, h.bn, f _ _ h.bl (fun _ z => nomatch z) (ne_of h.bl hx (by intro z; cases z)) h.bn.1 h.bn.2, h.bk.fr f4 hx h.r.a h.bl, h.be, ?_⟩
  · rcases List.mem_append.mp he with k | k
    · exact h.dk e k
    · rw [List.mem_singleton.mp k]
      exact hd
  · have := h.st
    rw [List.map_append, List.map_singleton]
    cases e : es.map (·.2) with
    | nil =>
      rw [e] at this
      exact this
    | cons a l =>
      rw [e] at this
      exact this
end
theorem UI.bsl {A : Ad} {K : PySem.W.Frag} {H0 H : Hp} {p d R P B w : Addr} {zs : List Zr} {es : List (Deed × List Pr)} {t u : Addr} {xs : List V} {bs : List Bk} {ds : List Deed} (h : UI A K H0 H p d R P B w zs es t u xs bs ds (es.map (·.2))) : bs.length = es.length := by
  have := congrArg List.length h.be
  rw [List.length_map, List.length_map] at this
  exact this
theorem deeds_last {H : Hp} {xs : List V} {ds : List Deed} {e : Deed} (h : DeedsAt H xs (ds ++ [e])) : ∃ ys b, xs = ys ++ [.ref b] ∧ DeedsAt H ys ds ∧ H b = some (.tup (dvs e)) := by
  induction ds generalizing xs with
  | nil =>
    cases h with
    | cons h1 h2 =>
      cases h2
      exact ⟨[], _, rfl, .nil, h1⟩
  | cons e1 es ih =>
    cases h with
    | cons h1 h2 =>
      obtain ⟨ys, x, rfl, h3, h4⟩ := ih h2
      exact ⟨_ :: ys, x, rfl, .cons h1 h3, h4⟩
theorem deed_sh {de : Deed} (h : DeedOk de) : SeqAt.shaped (.tuple (dds de)) = true := by
  unfold SeqAt.shaped
  rw [deed_lay de h, Bool.true_and]
  exact decide_eq_true (by cases de <;> simp [dds, PyData.depth, PyData.depthAll])
theorem deeds_emp (ds : List Deed) : PyData.eqv (.list (ds.map fun e => PyData.tuple (dds e))) (.list []) = decide (ds = []) := by
  cases ds with
  | nil => simp [PyData.eqv, PyData.eqvAll]
  | cons z l => simp [PyData.eqv, PyData.eqvAll]
theorem bs_last {bs : List Bk} (h : bs ≠ []) : ∃ R' : Addr, (bs.map fun b => V.ref b.1)[(bs.map fun b => V.ref b.1).length - 1]? = some (.ref R') := by
  have hl := List.length_pos_iff.mpr h
  rw [List.length_map, List.getElem?_map, List.getElem?_eq_getElem (by omega)]
  exact ⟨_, rfl⟩
theorem snoc_of {α : Type} {l : List α} (h : l ≠ []) : ∃ l0 x, l = l0 ++ [x] := ⟨l.dropLast, l.getLast h, (List.dropLast_concat_getLast h).symm⟩
theorem snoc_inj {α : Type} {a b : List α} {x y : α} (h : a ++ [x] = b ++ [y]) : a = b ∧ x = y := by
  have := List.append_inj' h rfl
  exact ⟨this.1, List.cons.inj this.2 |>.1⟩
theorem SqL.ext {K : PySem.W.Frag} {H H' : Hp} {a : Addr} {xs : List V} (h : SqL K H a xs) (e : ExtN H H') : SqL K H' a xs := by
  rcases h with (h | ⟨o, h⟩) | h
  · exact .inl (.inl (e _ _ h (fun _ z => nomatch z)))
  · exact .inl (.inr ⟨o, e _ _ h (fun _ z => nomatch z)⟩)
  · exact .inr h
/-- what one undoing leaves -/
theorem UI.pop {A : Ad} {K : PySem.W.Frag} {H0 H H1 H2 H3 : Hp} {p d R P B w t u t' u' l : Addr} {zs : List Zr} {es0 : List (Deed × List Pr)} {de : Deed} {ps0 : List Pr} {xs : List V} {bs : List Bk}
    (h : UI A K H0 H p d R P B w zs (es0 ++ [(de, ps0)]) t u xs bs ((es0 ++ [(de, ps0)]).map (·.1)) ((es0 ++ [(de, ps0)]).map (·.2))) (f : Fr p d H H1) (tb : Tabs (TT A) H1) (q : QAt A.CJ H1 p w t' u' d 0 ps0 es0) (s1 : H2 = upd H1 B (.lst ((bs.dropLast).map fun b => V.ref b.1))) (nl : H2 l = none) (e3 : H3 = upd H2 l (.lst xs.dropLast)) :
    ∃ (R' : Addr) (zs' : List Zr), (bs.map fun b => V.ref b.1)[(bs.map fun b => V.ref b.1).length - 1]? = some (.ref R') ∧ UI A K H0 H3 p d R' l B w zs' es0 t' u' xs.dropLast bs.dropLast (es0.map (·.1)) (es0.map (·.2)) := by
  obtain ⟨dx, fs, hx⟩ := h.q.ins
  have hbl := h.bsl
  have hne : bs ≠ [] := fun z => by rw [z] at hbl; simp at hbl
  obtain ⟨bs0, b0, rfl⟩ := snoc_of hne
  have be := h.be
  rw [List.map_append, List.map_append, List.map_singleton, List.map_singleton] at be
  obtain ⟨be1, be2⟩ := snoc_inj be
  have hb0 : b0 ∈ bs0 ++ [b0] := List.mem_append.mpr (.inr (List.mem_singleton.mpr rfl))
  obtain ⟨r0, g0, n1, n2, n3⟩ := h.bk.it b0 hb0
  have pd := h.pd
  rw [List.map_append, List.map_singleton] at pd
  obtain ⟨ys, bb, rfl, pd1, pd2⟩ := deeds_last pd
  have hb1 := f _ _ h.bl (fun _ z => nomatch z) (ne_of h.bl hx (by intro z; cases z)) h.bn.1
  obtain ⟨dx1, fs1, hx1⟩ := q.ins
  have f12 : ∀ c o, H1 c = some o → c ≠ B → H2 c = some o := fun c o e n => by rw [s1, upd_ne n]; exact e
  have f23 : Same H2 H3 := by rw [e3]; exact Same.up nl
  have fz12 : Fz H1 H2 := fun c o e _ _ n3 => f12 _ _ e (fun z => by rw [z, hb1] at e; exact n3 _ (Option.some.inj e).symm)
  have hBp : B ≠ p := ne_of hb1 hx1 (by intro z; cases z)
  have q3 : QAt A.CJ H3 p w t' u' d 0 ps0 es0 := (q.fz fz12 (fun o e => f12 _ _ e (fun z => hBp z.symm)) (fun o e => f12 _ _ e (fun z => h.bn.1 z.symm))).same f23
  have f42 : Fr4 p d R B H H2 := fun c o e n k1 k2 k3 k4 => f12 _ _ (f c o e n k1 k2) k4
  have f4 : Fr4 p d R B H H3 := f42.trans (Fr4.same f23)
  have bk3 := h.bk.fr f4 hx h.r.a h.bl
  have nd2 := h.bk.nd
  rw [List.map_append, List.map_singleton, List.nodup_append] at nd2
  have hb2 : H2 B = some (.lst (bs0.map fun b => V.ref b.1)) := by rw [s1, upd_same, List.dropLast_concat]
  have hlB : l ≠ B := fun z => by rw [z, hb2] at nl; cases nl
  have hR0 := (bk3.it b0 hb0).1
  refine ⟨b0.1, b0.2, by rw [List.map_append, List.length_append, List.map_singleton, List.length_singleton, Nat.add_sub_cancel, List.getElem?_concat_length], ?_⟩
  rw [List.dropLast_concat, List.dropLast_concat]
  obtain ⟨ysd, hd1, _⟩ := id q.dn
  refine ⟨by rw [be2]; exact q3, hR0, g0, fun e he => h.dk e (List.mem_append.mpr (.inl he)), by rw [e3, upd_same, List.dropLast_concat], pd1.fz (h.fzr f4), ⟨fun z => ?_, fun z => ?_, hlB⟩, ?_, h.extf f4, ⟨h.n0.1, h.n0.2.1, n3, h.n0.2.2.2⟩, ⟨h.bn.1, fun z => n2 z.symm⟩, f23 _ _ hb2, ?_, be1, ?_⟩
  · rw [z, f12 _ _ hd1 (fun z => h.bn.1 z.symm)] at nl
    cases nl
  · have := (h.bk.fr f42 hx h.r.a h.bl).it b0 hb0
    rw [z, this.1.a] at nl
    cases nl
  · have t2 : Tabs (TT A) H2 := by rw [s1]; exact tabs_putL tb hb1
    exact t2.ext f23
  · refine ⟨fun b hb => ?_, nd2.1⟩
    obtain ⟨r, g, m1, m2, m3⟩ := bk3.it b (List.mem_append.mpr (.inl hb))
    exact ⟨r, g, nd2.2.2 _ (List.mem_map.mpr ⟨b, hb, rfl⟩) _ (List.mem_singleton.mpr rfl), m2, m3⟩
  · have := h.st
    rw [be2]
    rw [List.map_append, List.map_singleton] at this
    cases e : es0.map (·.2) with
    | nil =>
      rw [e] at this
      exact this
    | cons a l =>
      rw [e] at this
      exact this

end
end Tw

set_option Elab.async false
set_option linter.all false
set_option maxRecDepth 100000
set_option maxHeartbeats 2000000
namespace Tw
open PySem PySem.Spec PyProof.Rows L2
section
variable {P : Program} {w : World} {K : PySem.W.Frag} {mg : Str → Option Value} {base : Heap} {A : Ad}
open LamX (ExtN Tabs TabS)
def ValidD (zs : List Zr) : Deed → Prop
  | .put n k => n ∈ wordsL ∧ n ∉ names (prs zs) ∧ (-1000000000 ≤ k ∧ k ≤ 1000000000) ∧ zs.length < 12
  | .chg n k => n ∈ names (prs zs) ∧ (-1000000000 ≤ k ∧ k ≤ 1000000000)
  | .drp n => n ∈ names (prs zs)
  | .tak => 0 < zs.length
theorem b_ldeed (T : Tx K mg A) : L2.Binds K A.d__law_deed ["script", "at", "rows"] [] := T.F__law_deed.binds fun _ _ _ _ _ _ us hl => match us, hl with | [_, _, _], _ => rfl
theorem b_ldone (T : Tx K mg A) : L2.Binds K A.d__law_done ["queue", "rows", "deed", "wide"] [] := T.F__law_done.binds fun _ _ _ _ _ _ us hl => match us, hl with | [_, _, _, _], _ => rfl
theorem b_lsame (T : Tx K mg A) : L2.Binds K A.d__law_same ["queue", "rows", "past"] [] := T.F__law_same.binds fun _ _ _ _ _ _ us hl => match us, hl with | [_, _, _], _ => rfl
theorem b_num (T : Tx K mg A) : L2.Binds K A.d__law_number ["script", "index"] [] := T.F__law_number.binds fun _ _ _ _ _ _ us hl => match us, hl with | [_, _], _ => rfl
theorem bd_iJ (T : Tx K mg A) : ∃ ds, Vals [V.int 2] ds ∧ L2.Binds K A.d_j___init__ ["self", "arms"] ds := by
  refine T.F_j___init__.binds0 1 (by simp) rfl (fun D doc pm an cdv ct us ks h1 h2 => ?_)
  match us, ks, h1, h2 with
  | [a], [c], _, _ => exact ⟨_, _, _, _, _, _, rfl, rfl, rfl⟩
theorem deed_dp {K : PySem.W.Frag} {H : Hp} {b : Addr} {de : Deed} (h : H b = some (.tup (dvs de))) : Dp K H (.ref b) (.tuple (dds de)) := by
  refine .tup (SqT.of h) ?_
  cases de with
  | put n k => exact .cons (.str _) (.cons (.str _) (.cons (.int _) .nil))
  | chg n k => exact .cons (.str _) (.cons (.str _) (.cons (.int _) .nil))
  | drp n => exact .cons (.str _) (.cons (.str _) .nil)
  | tak => exact .cons (.str _) .nil
theorem deeds_dp {K : PySem.W.Frag} {H : Hp} {xs : List V} {ds : List Deed} (h : DeedsAt H xs ds) : DpAll K H xs (ds.map fun e => .tuple (dds e)) := by
  induction h with
  | nil => exact .nil
  | cons h1 _ ih => exact .cons (deed_dp h1) ih
theorem deeds_lay : ∀ ds : List Deed, (∀ e ∈ ds, DeedOk e) → PyData.canLayAll0 (ds.map fun e => PyData.tuple (dds e)) = true
  | [], _ => rfl
  | e :: ds, h => by
    rw [List.map_cons, PyData.canLayAll0, deeds_lay ds (fun x hx => h x (List.mem_cons_of_mem _ hx)), deed_lay e (h e List.mem_cons_self)]
    rfl
theorem deeds_deep : ∀ ds : List Deed, PyData.depthAll (ds.map fun e => PyData.tuple (dds e)) ≤ 3
  | [] => by simp [PyData.depthAll]
  | e :: ds => by
    have := deeds_deep ds
    have h2 : (PyData.tuple (dds e)).depth ≤ 3 := by cases e <;> simp [dds, PyData.depth, PyData.depthAll]
    simp only [List.map_cons, PyData.depthAll]
    omega
theorem deeds_sh {ds : List Deed} (h : ∀ e ∈ ds, DeedOk e) : SeqAt.shaped (.list (ds.map fun e => PyData.tuple (dds e))) = true := by
  have h1 := deeds_deep ds
  unfold SeqAt.shaped
  rw [PyData.canLay0, deeds_lay ds h, Bool.true_and]
  refine decide_eq_true ?_
  rw [PyData.depth]
  omega
theorem emodN (z : Int) (m : Nat) (hm : 0 < m) : ∃ n : Nat, z % (m : Nat) = (n : Int) ∧ n < m := by
  have a0 := Int.emod_nonneg z (show ((m : Nat) : Int) ≠ 0 by omega)
  have a1 := Int.emod_lt_of_pos z (show (0 : Int) < (m : Nat) by omega)
  exact ⟨(z % (m : Nat)).toNat, (Int.toNat_of_nonneg a0).symm, by omega⟩
def ent (x : Nat × Nat) : Key × V := (Sum.inl (x.1 : Int), V.int (x.2 : Nat))
theorem kb_iJ (T : Tx K mg A) : ∃ mv : List Value, KBn K A.d_j___init__ ["self", "arms"] 1 ["arms"] (fun us ws => us ++ (mv ++ ws)) (fun vs zs => vs ++ zs) := by
  obtain ⟨mv, h⟩ := T.F_j___init__.kbinds0 (ps := ["self", "arms"]) 1 ["arms"] [] (fun us mv ws => us ++ (mv ++ ws)) (by simp) (by simp) (fun r1 r2 r3 => r1.append (r2.append r3))
    (fun D doc pm an cdv ct us mv ws h1 h2 h3 => by
      match us, mv, ws, h1, h2, h3 with
      | [a], [], [c], _, _, _ => rfl)
  exact ⟨mv, h⟩
theorem last_at {xs : List V} {y : V} : atI (xs ++ [y]) (-1) = some y := by
  unfold atI ixN
  rw [if_neg (by omega), if_pos (by simp; omega), show ((-1 : Int) + ((xs ++ [y]).length : Nat)).toNat = xs.length by rw [List.length_append, List.length_singleton]; omega]
  simp
def lenL (H : Hp) (D : Addr) : Nat := match H D with
  | some (.lst xs) => xs.length
  | _ => 0
theorem lenL_at {H : Hp} {D : Addr} {xs : List V} (h : H D = some (.lst xs)) : lenL H D = xs.length := by
  unfold lenL
  rw [h]
/-- what stood before an instance was made stands behind its making -/
theorem new_same {C x dx : Addr} {H H' : Hp} (nx : H x = none) (ndx : H dx = none) (k : ∀ b o, (upd (upd H dx (.own x)) x (.ins C dx [])) b = some o → b ≠ x → H' b = some o) : Same H H' := fun b o e => by
  refine k b o ?_ (ne_of_none e nx)
  rw [upd_ne (ne_of_none e nx), upd_ne (ne_of_none e ndx)]
  exact e
theorem b_ca (T : Tx K mg A) : L2.Binds K A.d_check_arms ["arms"] [] := T.F_check_arms.binds fun _ _ _ _ _ _ us hl => match us, hl with | [_], _ => rfl
theorem new_up {C x dx : Addr} {H : Hp} (nx : H x = none) (ndx : H dx = none) (nex : dx ≠ x) : Same H (upd (upd H dx (.own x)) x (.ins C dx [])) :=
  (Same.up ndx).trans (Same.up (by rw [upd_ne nex.symm]; exact nx))
theorem b_ii (T : Tx K mg A) : L2.Binds K A.d_is_integer_from ["thing", "least", "greatest"] [] := T.F_is_integer_from.binds fun _ _ _ _ _ _ us hl => match us, hl with | [_, _, _], _ => rfl
theorem cst {x : Str} {n : Int} (h : mg x = some (.int n 0) ∨ ∃ t, mg x = some (.int n t)) : ∃ t, mg x = some (.int n t) := h.elim (fun e => ⟨0, e⟩) id
/-- True just for ints -/
def spIs (K : PySem.W.Frag) : Sp := fun vs H Q _ => ∃ x : V, vs = [x] ∧
  ((∃ i, x = .int i ∧ Q (.bl true) H) ∨ (∃ n b1 b2, TyX K H x (.type n) ∧ kitB n "int" = some b1 ∧ kitB n "bool" = some b2 ∧ (b1 && !b2) = false ∧ Q (.bl false) H))
theorem ok_is (T : Tx K mg A) : FnOk P w K mg base CX0 1 A.f_is_integer A.d_is_integer ["thing"] (spIs K) := by
  refine T.F_is_integer.ok sc_is_integer (fun vs H Q E h => ?_) (fun cdv B outer s H vs Q E hr h => ?_)
  · obtain ⟨x, rfl, _⟩ := h
    rfl
  · obtain ⟨x, rfl, h⟩ := h
    refine ⟨_, pss_one (ps_ret (pe_and (pe_callB call_isi (by rfl) T.g_isinstance (by decide +kernel) (pa_cons (pv 0) (pa_cons (pe_bltn (v := .ty "int") (by rfl) T.g_int (by decide +kernel) rfl) pa_nil)))
      (pe_one (pe_not (pe_callB call_isi (by rfl) T.g_isinstance (by decide +kernel) (pa_cons (pv 0) (pa_cons (pe_bltn (v := .ty "bool") (by rfl) T.g_bool (by decide +kernel) rfl) pa_nil))))))), ?_⟩
    rcases h with ⟨i, rfl, q⟩ | ⟨n, b1, b2, ty, k1, k2, hb, q⟩
    · refine ⟨_, rfl, _, _, .type "int", .type "int", true, rfl, .ty "int", .base (.int i), kit_ty (by decide +kernel), true, rfl, iteT ?_⟩
      exact ⟨_, rfl, _, _, .type "int", .type "bool", false, rfl, .ty "bool", .base (.int i), kit_ty (by decide +kernel), false, rfl, q⟩
    · refine ⟨_, rfl, _, _, .type n, .type "int", b1, rfl, .ty "int", ty, kit_ty k1, b1, rfl, ?_⟩
      cases b1 with
      | false => exact iteF q
      | true =>
        cases b2 with
        | false => cases hb
        | true => exact iteT ⟨_, rfl, _, _, .type n, .type "bool", true, rfl, .ty "bool", ty, kit_ty k2, true, rfl, q⟩
theorem b_is (T : Tx K mg A) : L2.Binds K A.d_is_integer ["thing"] [] := T.F_is_integer.binds fun _ _ _ _ _ _ us hl => match us, hl with | [_], _ => rfl
/-- True just for ints within; other things by their class -/
def spII (K : PySem.W.Frag) : Sp := fun vs H Q _ => ∃ (x : V) (a b : Int), vs = [x, .int a, .int b] ∧
  ((∃ i, x = .int i ∧ Q (.bl (decide (a ≤ i ∧ i ≤ b))) H) ∨ (∃ n b1 b2, TyX K H x (.type n) ∧ kitB n "int" = some b1 ∧ kitB n "bool" = some b2 ∧ (b1 && !b2) = false ∧ Q (.bl false) H))
theorem ok_ii (T : Tx K mg A) : FnOk P w K mg base CX0 2 A.f_is_integer_from A.d_is_integer_from ["thing", "least", "greatest"] (spII K) := by
  refine T.F_is_integer_from.ok sc_is_integer_from (fun vs H Q E h => ?_) (fun cdv B outer s H vs Q E hr h => ?_)
  · obtain ⟨x, a, b, rfl, _⟩ := h
    rfl
  · obtain ⟨x, a, b, rfl, h⟩ := h
    refine ⟨_, pss_one (ps_ret (pe_and (pe_call (ok_is T) hr (by rfl) T.m_is_integer T.F_is_integer.kp (b_is T) .nil pass0 (pa_cons (pv 0) pa_nil))
        (pe_one (pe_chain op_le op_le (pv 1) (pv 0) (pv 2))))), ?_⟩
    rcases h with ⟨i, rfl, q⟩ | h
    · refine ⟨_, rfl, _, rfl, .inl ⟨i, rfl, true, rfl, iteT ?_⟩⟩
      refine ⟨_, rfl, _, rfl, _, _, rfl, rfl, _, rfl, ?_⟩
      by_cases h1 : a ≤ i
      · rw [decide_eq_true h1]
        refine iteT ⟨_, rfl, _, _, rfl, rfl, ?_⟩
        have e : decide (a ≤ i ∧ i ≤ b) = decide (i ≤ b) := by simp [h1]
        rw [e] at q
        exact q
      · rw [decide_eq_false h1]
        have e : decide (a ≤ i ∧ i ≤ b) = false := by simp [h1]
        rw [e] at q
        exact iteF q
    · obtain ⟨n, b1, b2, ty, k1, k2, hb, q⟩ := h
      exact ⟨_, rfl, _, rfl, .inr ⟨n, b1, b2, ty, k1, k2, hb, false, rfl, iteF q⟩⟩
def spCa : Sp := fun vs H Q _ => ∃ i : Int, vs = [.int i] ∧ (1 ≤ i ∧ i ≤ 4) ∧ Q .non H
theorem ok_ca (T : Tx K mg A) : FnOk P w K mg base CX0 3 A.f_check_arms A.d_check_arms ["arms"] spCa := by
  refine T.F_check_arms.ok sc_check_arms (fun vs H Q E h => ?_) (fun cdv B outer s H vs Q E hr h => ?_)
  · obtain ⟨i, rfl, _⟩ := h
    rfl
  · obtain ⟨i, rfl, hi, q⟩ := h
    obtain ⟨t, hg⟩ := cst T.c_MOST_ARMS
    refine ⟨_, pss_one (ps_if (pt_not (pt_val (pe_call (ok_ii T) hr (by rfl) T.m_is_integer_from T.F_is_integer_from.kp (b_ii T) .nil pass0
      (pa_cons (pv 0) (pa_cons pe_int (pa_cons (pe_glob (by rfl) hg (relI _ _)) pa_nil)))))) (pss_one ps_never) pss_nil), ?_⟩
    refine ⟨_, rfl, _, _, _, rfl, .inl ⟨i, rfl, _, rfl, ?_⟩⟩
    rw [decide_eq_true hi]
    exact iteF q
theorem fdJ_eq (w : Int) (t u d : Addr) (b : Int) (m : V) : putF "_mark" m (putF "_begun" (.int b) (putF "_done" (.ref d) (putF "_names" (.ref u) (putF "_heap" (.ref t) (putF "arms" (.int w) []))))) = fdJ w t u d b m := by
  have h1 : ("arms" : Str) ≠ "_heap" := by decide +kernel
  have h2 : ("arms" : Str) ≠ "_names" := by decide +kernel
  have h3 : ("arms" : Str) ≠ "_done" := by decide +kernel
  have h4 : ("arms" : Str) ≠ "_begun" := by decide +kernel
  have h5 : ("arms" : Str) ≠ "_mark" := by decide +kernel
  have h6 : ("_heap" : Str) ≠ "_names" := by decide +kernel
  have h7 : ("_heap" : Str) ≠ "_done" := by decide +kernel
  have h8 : ("_heap" : Str) ≠ "_begun" := by decide +kernel
  have h9 : ("_heap" : Str) ≠ "_mark" := by decide +kernel
  have ha : ("_names" : Str) ≠ "_done" := by decide +kernel
  have hb : ("_names" : Str) ≠ "_begun" := by decide +kernel
  have hc : ("_names" : Str) ≠ "_mark" := by decide +kernel
  have hd : ("_done" : Str) ≠ "_begun" := by decide +kernel
  have he : ("_done" : Str) ≠ "_mark" := by decide +kernel
  have hf : ("_begun" : Str) ≠ "_mark" := by decide +kernel
  unfold fdJ
  simp only [putF, if_neg h1, if_neg h2, if_neg h3, if_neg h4, if_neg h5, if_neg h6, if_neg h7, if_neg h8, if_neg h9, if_neg ha, if_neg hb, if_neg hc, if_neg hd, if_neg he, if_neg hf]
def spIJ (C : Addr) : Sp := fun vs H Q _ => ∃ (p dx w : Nat), vs = [.ref p, .int w] ∧ (1 ≤ w ∧ w ≤ 4) ∧ H p = some (.ins C dx []) ∧
  ∀ (H' : Hp) (t u d : Addr), (∀ b o, H b = some o → b ≠ p → H' b = some o) → H d = none → QAt C H' p w t u d 0 [] [] → Q .non H'
theorem ok_iJ (T : Tx K mg A) : FnOk P w K mg base CX0 4 A.f_j___init__ A.d_j___init__ ["self", "arms"] (spIJ A.CJ) := by
  refine T.F_j___init__.ok sc_j___init__ (fun vs H Q E h => ?_) (fun cdv B outer s H vs Q E hr h => ?_)
  · obtain ⟨p, dx, w, rfl, _⟩ := h
    rfl
  · obtain ⟨p, dx, w, rfl, hw, hp, q⟩ := h
    refine ⟨_, (pss_cons (ps_expr (pe_call (ok_ca T) (hr.mono (by decide)) (by rfl) T.m_check_arms T.F_check_arms.kp (b_ca T) .nil pass0 (pa_cons (pv 1) pa_nil)))
      (pss_cons (ps_fld (pv 0) (pv 1) rfl)
      (pss_cons (ps_fld (pv 0) (pe_tup pa_nil) rfl)
      (pss_cons (ps_fld (pv 0) (pe_tup pa_nil) rfl)
      (pss_cons (ps_fld (pv 0) (pe_lst pa_nil) rfl)
      (pss_cons (ps_fld (pv 0) pe_int rfl)
      (pss_one (ps_fld (pv 0) (pe_makeO T.mkCM (by rfl) T.mCM) rfl)))))))), ?_⟩
    refine ⟨_, rfl, w, rfl, ⟨by omega, by omega⟩, ?_⟩
    refine ⟨_, rfl, _, rfl, p, A.CJ, dx, _, rfl, hp, T.cTJ, T.jArms, by show 0 < 1000; decide, ?_⟩
    have fr : ∀ b o, H b = some o → b ≠ p → upd H p (.ins A.CJ dx (putF "arms" (.int w) [])) b = some o := fun b o e n => by rw [upd_ne n]; exact e
    have hp1 : upd H p (.ins A.CJ dx (putF "arms" (.int w) [])) p = _ := upd_same
    generalize upd H p (.ins A.CJ dx (putF "arms" (.int w) [])) = H1 at fr hp1
    refine ⟨by show 0 ≤ sizeLine; decide, fun t nt => ?_⟩
    have st := Same.up (o := .tup []) nt
    have et := upd_same (H := H1) (a := t) (o := .tup [])
    have hp2 := st _ _ hp1
    have fr2 : ∀ b o, H b = some o → b ≠ p → upd H1 t (.tup []) b = some o := fun b o e n => st _ _ (fr b o e n)
    generalize upd H1 t (.tup []) = H2 at et hp2 fr2
    have htp : t ≠ p := ne_of et hp2 (by intro z; cases z)
    refine ⟨_, rfl, p, A.CJ, dx, _, rfl, hp2, T.cTJ, T.jHeap, by show 1 < 1000; decide, ?_⟩
    have fr3 : ∀ b o, H b = some o → b ≠ p → upd H2 p (.ins A.CJ dx (putF "_heap" (.ref t) (putF "arms" (.int w) []))) b = some o := fun b o e n => by rw [upd_ne n]; exact fr2 b o e n
    have hp3 : upd H2 p (.ins A.CJ dx (putF "_heap" (.ref t) (putF "arms" (.int w) []))) p = _ := upd_same
    have et3 : upd H2 p (.ins A.CJ dx (putF "_heap" (.ref t) (putF "arms" (.int w) []))) t = _ := (upd_ne htp).trans et
    generalize upd H2 p (.ins A.CJ dx (putF "_heap" (.ref t) (putF "arms" (.int w) []))) = H3 at fr3 hp3 et3
    refine ⟨by show 0 ≤ sizeLine; decide, fun u nu => ?_⟩
    have su := Same.up (o := .tup []) nu
    have eu := upd_same (H := H3) (a := u) (o := .tup [])
    have hp4 := su _ _ hp3
    have et4 := su _ _ et3
    have fr4 : ∀ b o, H b = some o → b ≠ p → upd H3 u (.tup []) b = some o := fun b o e n => su _ _ (fr3 b o e n)
    generalize upd H3 u (.tup []) = H4 at eu hp4 et4 fr4
    have hup : u ≠ p := ne_of eu hp4 (by intro z; cases z)
    refine ⟨_, rfl, p, A.CJ, dx, _, rfl, hp4, T.cTJ, T.jNames, by show 2 < 1000; decide, ?_⟩
    have fr5 : ∀ b o, H b = some o → b ≠ p → upd H4 p (.ins A.CJ dx (putF "_names" (.ref u) (putF "_heap" (.ref t) (putF "arms" (.int w) [])))) b = some o := fun b o e n => by rw [upd_ne n]; exact fr4 b o e n
    have hp5 : upd H4 p (.ins A.CJ dx (putF "_names" (.ref u) (putF "_heap" (.ref t) (putF "arms" (.int w) [])))) p = _ := upd_same
    have et5 : upd H4 p (.ins A.CJ dx (putF "_names" (.ref u) (putF "_heap" (.ref t) (putF "arms" (.int w) [])))) t = _ := (upd_ne htp).trans et4
    have eu5 : upd H4 p (.ins A.CJ dx (putF "_names" (.ref u) (putF "_heap" (.ref t) (putF "arms" (.int w) [])))) u = _ := (upd_ne hup).trans eu
    generalize upd H4 p (.ins A.CJ dx (putF "_names" (.ref u) (putF "_heap" (.ref t) (putF "arms" (.int w) [])))) = H5 at fr5 hp5 et5 eu5
    refine ⟨Nat.zero_le _, fun d nd => ?_⟩
    have sd := Same.up (o := .lst []) nd
    have ed := upd_same (H := H5) (a := d) (o := .lst [])
    have hp6 := sd _ _ hp5
    have et6 := sd _ _ et5
    have eu6 := sd _ _ eu5
    have fr6 : ∀ b o, H b = some o → b ≠ p → upd H5 d (.lst []) b = some o := fun b o e n => sd _ _ (fr5 b o e n)
    have nd0 : H d = none := by
      cases e : H d with
      | none => rfl
      | some o =>
        by_cases hdp : d = p
        · rw [hdp, hp5] at nd
          cases nd
        · rw [fr5 d o e hdp] at nd
          cases nd
    generalize upd H5 d (.lst []) = H6 at ed hp6 et6 eu6 fr6
    have hdp : d ≠ p := ne_of ed hp6 (by intro z; cases z)
    refine ⟨_, rfl, p, A.CJ, dx, _, rfl, hp6, T.cTJ, T.jDone, by show 3 < 1000; decide, ?_⟩
    refine ⟨_, rfl, p, A.CJ, dx, _, rfl, upd_same, T.cTJ, T.jBegun, by show 4 < 1000; decide, ?_⟩
    generalize eX : putF "_begun" (.int 0) (putF "_done" (.ref d) (putF "_names" (.ref u) (putF "_heap" (.ref t) (putF "arms" (.int w) [])))) = X5
    have fr7 : ∀ b o, H b = some o → b ≠ p → upd (upd H6 p (.ins A.CJ dx (putF "_done" (.ref d) (putF "_names" (.ref u) (putF "_heap" (.ref t) (putF "arms" (.int w) [])))))) p (.ins A.CJ dx X5) b = some o := fun b o e n => by rw [upd_ne n, upd_ne n]; exact fr6 b o e n
    have hp7 : upd (upd H6 p (.ins A.CJ dx (putF "_done" (.ref d) (putF "_names" (.ref u) (putF "_heap" (.ref t) (putF "arms" (.int w) [])))))) p (.ins A.CJ dx X5) p = _ := upd_same
    have et7 : upd (upd H6 p (.ins A.CJ dx (putF "_done" (.ref d) (putF "_names" (.ref u) (putF "_heap" (.ref t) (putF "arms" (.int w) [])))))) p (.ins A.CJ dx X5) t = _ := (upd_ne htp).trans ((upd_ne htp).trans et6)
    have eu7 : upd (upd H6 p (.ins A.CJ dx (putF "_done" (.ref d) (putF "_names" (.ref u) (putF "_heap" (.ref t) (putF "arms" (.int w) [])))))) p (.ins A.CJ dx X5) u = _ := (upd_ne hup).trans ((upd_ne hup).trans eu6)
    have ed7 : upd (upd H6 p (.ins A.CJ dx (putF "_done" (.ref d) (putF "_names" (.ref u) (putF "_heap" (.ref t) (putF "arms" (.int w) [])))))) p (.ins A.CJ dx X5) d = _ := (upd_ne hdp).trans ((upd_ne hdp).trans ed)
    generalize upd (upd H6 p (.ins A.CJ dx (putF "_done" (.ref d) (putF "_names" (.ref u) (putF "_heap" (.ref t) (putF "arms" (.int w) [])))))) p (.ins A.CJ dx X5) = H7 at fr7 hp7 et7 eu7 ed7
    refine fun x d2 nx nd2 nex => ?_
    have s4 := new_up (C := A.CM) nx nd2 nex
    refine ⟨_, rfl, p, A.CJ, dx, _, rfl, s4 _ _ hp7, T.cTJ, T.jMark, by rw [← eX]; show 5 < 1000; decide, ?_⟩
    refine q _ t u d (fun b o e n => by rw [upd_ne n]; exact s4 _ _ (fr7 b o e n)) nd0 ⟨⟨dx, .ref x, ?_⟩, by rw [upd_ne htp]; exact s4 _ _ et7, .inr ⟨rfl, by rw [upd_ne hup]; exact s4 _ _ eu7⟩, ⟨[], by rw [upd_ne hdp]; exact s4 _ _ ed7, .nil⟩⟩
    rw [upd_same, ← fdJ_eq, ← eX]
    rfl
abbrev rLn (K : PySem.W.Frag) : List V → Hp → VK → Prop := fun xs H Q => ∃ p ys, xs = [.ref p] ∧ (SqL K H p ys ∨ SqT K H p ys) ∧ Q (.int ys.length) H
theorem strs_flat : ∀ p : List Str, (p.map V.str).all flatV = true
  | [] => rfl
  | a :: p => by
    show (flatV (V.str a) && (p.map V.str).all flatV) = true
    rw [strs_flat p]
    rfl
theorem inV_strs (m : Str) : ∀ p : List Str, inV (V.str m) (p.map V.str) = decide (m ∈ p)
  | [] => by simp [inV]
  | a :: p => by
    have ih := inV_strs m p
    unfold inV at ih ⊢
    show (eqV (V.str a) (V.str m) || (p.map V.str).any fun y => eqV y (V.str m)) = _
    rw [ih]
    by_cases h : m = a
    · subst h
      rw [show eqV (V.str m) (V.str m) = true from decide_eq_true rfl, Bool.true_or, decide_eq_true List.mem_cons_self]
    · rw [show eqV (V.str a) (V.str m) = false from decide_eq_false (fun z => h z.symm), Bool.false_or]
      exact decide_eq_decide.mpr ⟨fun z => List.mem_cons_of_mem _ z, fun z => (List.mem_cons.mp z).resolve_left h⟩
def e0 : Str := ⟨#[]⟩
def asSc (b : List Stmt) : Scope := match b.drop 2 with
  | Stmt.Assign _ (Expr.Subscript (Expr.ListComp _ _ s _) _ _) _ :: _ => s
  | Stmt.Assign _ (Expr.ListComp _ _ s _) _ :: _ => s
  | _ => defScope s_is_integer
def ddSc (b : List Stmt) : Scope := asSc b
theorem getD_mem {α : Type} (d : α) {xs : List α} {i : Nat} (h : i < xs.length) : xs.getD i d ∈ xs := by
  rw [getD_at d h]
  exact List.getElem_mem h
theorem kz_at (zs : List Zr) (i : Nat) : keyAt (kz zs) i = (zs.getD i z0).2.1 := by
  unfold kz keys prs keyAt
  rw [List.map_map]
  exact getD_mapG (fun z : Zr => z.2.1) z0 zs i
theorem Rows.at_ {d : Addr} {H : Hp} {R : Addr} {zs : List Zr} (h : Rows d H R zs) {i : Nat} (hi : i < zs.length) : H (zs.getD i z0).1 = some (.lst [.int (keyAt (kz zs) i), .str (zs.getD i z0).2.2]) := by
  rw [kz_at]
  exact (h.it _ (getD_mem z0 hi)).2.2
theorem rat {zs : List Zr} {i : Nat} (h : i < zs.length) : atI (zs.map fun z => V.ref z.1) (i : Int) = some (.ref (zs.getD i z0).1) := atV_nat (fun z : Zr => V.ref z.1) z0 h
def rowD (z : Zr) : PyData := .list [.int z.2.1, .str z.2.2]
theorem rows_dp {K : PySem.W.Frag} {H : Hp} : ∀ zs : List Zr, (∀ z ∈ zs, H z.1 = some (.lst [.int z.2.1, .str z.2.2])) → DpAll K H (zs.map fun z => V.ref z.1) (zs.map rowD)
  | [], _ => .nil
  | z :: zs, h => .cons (.lst (SqL.of (h z List.mem_cons_self)) (.cons (.int _) (.cons (.str _) .nil))) (rows_dp zs fun y hy => h y (List.mem_cons_of_mem _ hy))
theorem rows_lay : ∀ zs : List Zr, (∀ z ∈ zs, (PyData.str z.2.2).canLay0 = true) → PyData.canLayAll0 (zs.map rowD) = true
  | [], _ => rfl
  | z :: zs, h => by
    rw [List.map_cons, PyData.canLayAll0, rows_lay zs (fun y hy => h y (List.mem_cons_of_mem _ hy))]
    unfold rowD
    rw [PyData.canLay0, PyData.canLayAll0, PyData.canLayAll0, PyData.canLayAll0, h z List.mem_cons_self]
    rfl
theorem rows_deep : ∀ zs : List Zr, PyData.depthAll (zs.map rowD) ≤ 3
  | [] => by simp [PyData.depthAll]
  | z :: zs => by
    have := rows_deep zs
    unfold rowD at *
    simp only [List.map_cons, PyData.depthAll, PyData.depth] at *
    omega
theorem rows_sh {zs : List Zr} (h : ∀ z ∈ zs, (PyData.str z.2.2).canLay0 = true) : SeqAt.shaped (.list (zs.map rowD)) = true := by
  have h1 := rows_deep zs
  unfold SeqAt.shaped
  rw [PyData.canLay0, rows_lay zs h, Bool.true_and]
  refine decide_eq_true ?_
  rw [PyData.depth]
  omega
theorem rows_emp (zs : List Zr) : PyData.eqv (.list (zs.map rowD)) (.list []) = decide (zs = []) := by
  cases zs with
  | nil => simp [PyData.eqv, PyData.eqvAll]
  | cons z l => simp [PyData.eqv, PyData.eqvAll]
theorem WordsZ.lay {zs : List Zr} (h : WordsZ zs) : ∀ z ∈ zs, (PyData.str z.2.2).canLay0 = true := fun z hz => (word_ok _ (h z hz)).2
theorem word_of {zs : List Zr} (h : WordsZ zs) {n : Str} (hn : n ∈ names (prs zs)) : n ∈ wordsL := by
  rw [names_prs] at hn
  obtain ⟨y, hy, e⟩ := List.mem_map.mp hn
  rw [← e]
  exact h y hy
theorem ValidD.ok {zs : List Zr} (h : WordsZ zs) {de : Deed} (v : ValidD zs de) : DeedOk de := by
  cases de with
  | put n k => exact v.1
  | chg n k => exact word_of h v.1
  | drp n => exact word_of h v
  | tak => trivial
theorem emp_eqv : ∀ ns : List Int, PyData.eqv (.list (ns.map PyData.int)) (.list []) = decide (ns = [])
  | [] => by rfl
  | n :: ns => by rfl
theorem shaped_ints (ns : List Int) : SeqAt.shaped (.list (ns.map PyData.int)) = true := by
  have h1 : ∀ ms : List Int, PyData.canLayAll0 (ms.map PyData.int) = true := fun ms => by
    induction ms with
    | nil => rfl
    | cons m ms ih => rw [List.map_cons, PyData.canLayAll0, ih]; rfl
  have h2 : ∀ ms : List Int, PyData.depthAll (ms.map PyData.int) ≤ 1 := fun ms => by
    induction ms with
    | nil => simp [PyData.depthAll]
    | cons m ms ih =>
      simp only [List.map_cons, PyData.depthAll, PyData.depth]
      omega
  have h3 : PyData.depth (.list (ns.map PyData.int)) ≤ 64 := by
    have := h2 ns
    simp only [PyData.depth]
    omega
  unfold SeqAt.shaped
  rw [decide_eq_true h3, Bool.and_true]
  simp only [PyData.canLay0]
  exact h1 ns
theorem ints_dp (K : PySem.W.Frag) (H : Hp) : ∀ ns : List Int, DpAll K H (ns.map V.int) (ns.map PyData.int)
  | [] => .nil
  | n :: ns => .cons (.int n) (ints_dp K H ns)
theorem cut63 (xs : List V) (h : xs.length ≤ 63) : cutV xs none (some 63) = xs := by
  unfold cutV
  rw [HT.sIx_none, show (63 : Int) = ((63 : Nat) : Int) from rfl, HT.sIx_nat, List.drop_zero, Nat.min_eq_right h, Nat.sub_zero, List.take_length]
def spNum (K : PySem.W.Frag) : Sp := fun vs H Q _ => ∃ (a : Addr) (ns : List Int) (i : Nat), vs = [.ref a, .int i] ∧ SqL K H a (ns.map V.int) ∧ ns.length ≤ 63 ∧ i < 1000000 ∧ ∀ H' r, Same H H' → Q (.int r) H'
theorem ok_num (T : Tx K mg A) : FnOk P w K mg base CX0 2 A.f__law_number A.d__law_number ["script", "index"] (spNum K) := by
  refine T.F__law_number.ok sc__law_number (fun vs H Q E h => ?_) (fun cdv B outer s H vs Q E hr h => ?_)
  · obtain ⟨a, ns, i, rfl, _⟩ := h
    rfl
  · obtain ⟨a, ns, i, rfl, ha, hl, hi, q⟩ := h
    have nd := sc__law_number.nd
    have hu := hr.units
    refine ⟨_, C8.pss_cut (ps_set (i := 2) nd rfl (Or.inl rfl) (pe_ifExp (pt_cmpR (op_neD hu) (pv 0) (pe_lst pa_nil) (nomark _)) (pe_slice sl_list (pv 0) po_none (po_some pe_int)) (pe_lst (pa_cons pe_int pa_nil))))
      (pss_cons (ps_set (i := 3) nd rfl (Or.inl rfl) (pe_op op_add
        (pe_ix ix_list (pv 2) (pe_op op_mod (pe_callTy call_int1 (by rfl) T.g_int (by decide +kernel) (pa_cons (pv 1) pa_nil)) (pe_callB call_len_seq (by rfl) T.g_len PySem.boot_len (pa_cons (pv 2) pa_nil))) (fun _ _ => rfl))
        (pe_op op_mul pe_int (pe_op op_fdivN (pv 1) (pe_callB call_len_seq (by rfl) T.g_len PySem.boot_len (pa_cons (pv 2) pa_nil))))))
      (pss_cons (ps_par (i := 4) (j := 5) rfl nd rfl rfl (by decide) rfl rfl (pa_cons (pe_op op_mod (pe_callTy call_int1 (by rfl) T.g_int (by decide +kernel) (pa_cons (pv 3) pa_nil)) pe_int)
          (pa_cons (pe_op op_mod (pe_callTy call_int1 (by rfl) T.g_int (by decide +kernel) (pa_cons (pe_op op_fdivN (pv 3) pe_int) pa_nil)) pe_int) pa_nil)) rfl)
      (pss_cons (ps_set (i := 6) nd rfl (Or.inl rfl) (pe_op op_mod (pe_callTy call_int1 (by rfl) T.g_int (by decide +kernel) (pa_cons (pe_callB (cr_sum rfl) (by rfl) T.g_sum (by decide +kernel) (pa_cons (pv 2) pa_nil)) pa_nil)) pe_int))
      (pss_cons (ps_set (i := 7) nd rfl (Or.inl rfl) (pe_op op_mod (pe_callTy call_int1 (by rfl) T.g_int (by decide +kernel) (pa_cons
          (pe_op op_add (pe_op op_add (pe_op op_mul (pe_op op_add (pv 4) (pe_op op_mul pe_int (pv 1))) pe_int) (pe_op op_mul pe_int (pv 5))) (pv 6)) pa_nil)) pe_int))
      (pss_one (ps_ret (pe_op op_add (pe_op op_mul (pe_op op_mod (pe_callTy call_int1 (by rfl) T.g_int (by decide +kernel) (pa_cons
          (pe_op op_mul (pv 7) (pe_op op_add (pe_op op_add (pv 7) (pe_op op_mul pe_int (pv 1))) pe_int)) pa_nil)) pe_int) pe_int) (pv 5)))))))), ?_⟩
    refine ⟨fun σ H1 => ∃ (c : Addr) (cs : List Int), σ = [some (.ref a), some (.int i), some (.ref c), none, none, none, none, none] ∧ Same H H1 ∧ H1 c = some (.lst (cs.map V.int)) ∧ 0 < cs.length ∧ cs.length ≤ 63, ?_, ?_⟩
    · refine ⟨_, rfl, Nat.zero_le _, fun l0 hl0 => ?_⟩
      have hs0 : Same H (upd H l0 (.lst [])) := Same.up hl0
      refine ⟨.list (ns.map PyData.int), .list [], .lst (hs0.seq ha) (ints_dp _ _ _), .lst (SqL.of upd_same) .nil, ?_, rfl, _, rfl, ?_⟩
      · exact shaped_ints _
      · rw [emp_eqv]
        by_cases e : ns = []
        · rw [decide_eq_true e]
          refine iteF ⟨by show 1 ≤ sizeLine; decide, fun l1 hl1 => ⟨l1, [5], rfl, hs0.trans (Same.up hl1), upd_same, by decide, by decide⟩⟩
        · rw [decide_eq_false e]
          refine iteT ⟨_, rfl, _, rfl, a, _, rfl, hs0.seq ha, fun l1 hl1 => ⟨l1, ns, rfl, hs0.trans (Same.up hl1), ?_, ?_, hl⟩⟩
          · rw [upd_same]
            exact congrArg (fun z => some (HO.lst z)) (cut63 _ (by rw [List.length_map]; exact hl))
          · exact List.length_pos_iff.mpr e
    · rintro σ H1 ⟨c, cs, rfl, s1, hc, h0, h63⟩
      have hq := SqL.of (K := K) hc
      have hL : ((cs.map V.int).length : Int) = (cs.length : Int) := by rw [List.length_map]
      have hm0 : 0 ≤ (i : Int) % (cs.length : Int) := Int.emod_nonneg _ (by omega)
      have hm1 : (i : Int) % (cs.length : Int) < (cs.length : Int) := Int.emod_lt_of_pos _ (by omega)
      obtain ⟨j, hj⟩ : ∃ j : Nat, (i : Int) % (cs.length : Int) = (j : Int) := ⟨_, (Int.toNat_of_nonneg hm0).symm⟩
      have hjl : j < cs.length := by omega
      have hat : atI (cs.map V.int) ((i : Int) % ((cs.map V.int).length : Int)) = some (V.int cs[j]) := by
        rw [hL, hj]
        exact atI_nat (by rw [List.getElem?_map, List.getElem?_eq_getElem hjl]; rfl)
      refine ⟨_, rfl, _, rfl, .inl ⟨_, rfl, _, rfl, c, _, rfl, .inl hq, _, _, rfl, rfl, ?_, c, _, _, _, rfl, rfl, hq, hat, _, rfl, _, rfl, c, _, rfl, .inl hq, _, _, rfl, rfl, ⟨?_, ?_⟩, _, _, rfl, rfl, .inl ⟨by decide, by decide⟩, _, _, rfl, rfl, ?_⟩⟩
      · show (0 : Int) < ((cs.map V.int).length : Int)
        omega
      · omega
      · omega
      · refine ⟨_, rfl, .inl ⟨_, rfl, _, _, rfl, rfl, by show (0 : Int) < 1000003; decide, ?_⟩⟩
        refine ⟨_, rfl, _, _, rfl, rfl, ⟨by decide, by decide⟩, .inl ⟨_, rfl, _, _, rfl, rfl, by show (0 : Int) < 999983; decide, _, _, rfl, ?_⟩⟩
        refine ⟨_, rfl, c, cs, rfl, hq, .inl ⟨_, rfl, _, _, rfl, rfl, by show (0 : Int) < 65521; decide, ?_⟩⟩
        refine ⟨_, rfl, _, rfl, _, _, rfl, rfl, .inl ⟨by decide, by decide⟩, _, _, rfl, rfl, _, _, rfl, rfl, .inr ⟨by decide, by decide⟩, ?_⟩
        refine ⟨_, rfl, _, _, rfl, rfl, .inl ⟨by decide, by decide⟩, _, _, rfl, rfl, _, rfl, _, _, rfl, rfl, .inl ⟨_, rfl, _, _, rfl, rfl, by show (0 : Int) < 2147483647; decide, ?_⟩⟩
        refine ⟨_, rfl, _, rfl, _, rfl, _, _, rfl, rfl, .inl ⟨by decide, by decide⟩, _, _, rfl, rfl, _, _, rfl, rfl, _, _, rfl, rfl, .inl ⟨?_, ?_⟩, .inl ⟨_, rfl, _, _, rfl, rfl, by show (0 : Int) < 2147483629; decide, ?_⟩⟩
        · have := Int.emod_nonneg ((((cs[j] + 13 * Int.fdiv (i : Int) ((cs.map V.int).length : Int)) % 1000003 + 977 * (i : Int)) * 48271 + 31 * (Int.fdiv (cs[j] + 13 * Int.fdiv (i : Int) ((cs.map V.int).length : Int)) 1000003 % 999983)) + cs.sum % 65521) (show (2147483647 : Int) ≠ 0 by decide)
          omega
        · have := Int.emod_lt_of_pos ((((cs[j] + 13 * Int.fdiv (i : Int) ((cs.map V.int).length : Int)) % 1000003 + 977 * (i : Int)) * 48271 + 31 * (Int.fdiv (cs[j] + 13 * Int.fdiv (i : Int) ((cs.map V.int).length : Int)) 1000003 % 999983)) + cs.sum % 65521) (show (0 : Int) < 2147483647 by decide)
          omega
        · exact ⟨_, _, rfl, rfl, .inr ⟨by decide, by decide⟩, _, rfl, _, _, rfl, rfl, q _ _ s1⟩
end
end Tw

set_option Elab.async false
set_option linter.all false
set_option maxRecDepth 100000
set_option maxHeartbeats 2000000
namespace Tw
open PySem PySem.Spec PyProof.Rows L2
section
variable {P : Program} {w : World} {K : PySem.W.Frag} {mg : Str → Option Value} {base : Heap} {A : Ad}
open LamX (ExtN Tabs TabS)
def freeL (zs : List Zr) : List Str := wordsL.filter fun z => decide (z ∉ names (prs zs))
theorem free_mem {zs : List Zr} {z : Str} (h : z ∈ freeL zs) : z ∈ wordsL ∧ z ∉ names (prs zs) := by
  obtain ⟨h1, h2⟩ := List.mem_filter.mp h
  exact ⟨h1, of_decide_eq_true h2⟩
theorem names_len (ps : List Pr) : (names ps).length = ps.length := List.length_map ..
theorem words_nodup : wordsL.Nodup := by decide +kernel
theorem free_pos {zs : List Zr} (h : zs.length ≤ 12) : 0 < (freeL zs).length := by
  refine List.length_pos_iff.mpr fun e => ?_
  have hs : wordsL ⊆ names (prs zs) := fun z hz => by
    refine Decidable.byContradiction fun hn => ?_
    have : z ∈ freeL zs := List.mem_filter.mpr ⟨hz, decide_eq_true hn⟩
    rw [e] at this
    cases this
  have := List.Nodup.length_le_of_subset words_nodup hs
  rw [names_len, prs_len] at this
  have hw : wordsL.length = 15 := rfl
  omega
def spLdeed (K : PySem.W.Frag) : Sp := fun vs H Q _ => ∃ (d a i R : Nat) (ns : List Int) (zs : List Zr), vs = [.ref a, .int i, .ref R] ∧ SqL K H a (ns.map V.int) ∧ ns.length ≤ 63 ∧ i < 900 ∧ Rows d H R zs ∧ WordsZ zs ∧ zs.length ≤ 12 ∧
  ∀ (H' : Hp) (D : Addr) (de : Deed), Same H H' → H' D = some (.tup (dvs de)) → ValidD zs de → Q (.ref D) H'
theorem ok_ldeed (T : Tx K mg A) : FnOk P w K mg base CX0 3 A.f__law_deed A.d__law_deed ["script", "at", "rows"] (spLdeed K) := by
  refine T.F__law_deed.ok sc__law_deed (fun vs H Q E h => ?_) (fun cdv B outer s H vs Q E hr h => ?_)
  · obtain ⟨d, a, i, R, ns, zs, rfl, _⟩ := h
    rfl
  · obtain ⟨d, a, i, R, ns, zs, rfl, ha, h63, hi, hR, hW, hl12, q⟩ := h
    have nd := sc__law_deed.nd
    have hu := hr.units
    refine ⟨_, (C8.pss_cut (ps_set (i := 3) nd rfl (Or.inl rfl) (pe_lst (pa_cons pe_str (pa_cons pe_str (pa_cons pe_str (pa_cons pe_str (pa_cons pe_str (pa_cons pe_str (pa_cons pe_str (pa_cons pe_str (pa_cons pe_str (pa_cons pe_str (pa_cons pe_str (pa_cons pe_str (pa_cons pe_str (pa_cons pe_str (pa_cons pe_str pa_nil)))))))))))))))))
      (C8.pss_cut (ps_par (i := 4) (j := 5) rfl nd rfl rfl (by decide) rfl rfl (pa_cons (pe_op op_mod (pe_callTy call_int1 (by rfl) T.g_int (by decide +kernel) (pa_cons (pe_call (ok_num T) (hr.mono (by decide)) (by rfl) T.m__law_number T.F__law_number.kp (b_num T) .nil pass0 (pa_cons (pv 0) (pa_cons (pv 1) pa_nil))) pa_nil)) pe_int) (pa_cons (pe_callTy call_int1 (by rfl) T.g_int (by decide +kernel) (pa_cons (pe_call (ok_num T) (hr.mono (by decide)) (by rfl) T.m__law_number T.F__law_number.kp (b_num T) .nil pass0 (pa_cons (pv 0) (pa_cons (pe_op op_add (pv 1) pe_int) pa_nil))) pa_nil)) pa_nil)) rfl)
      (C8.pss_cut (ps_setLc (i := 6) (own := [("word", 9)]) (g := gName 9) rfl nd rfl rfl (sw_true rfl rfl rfl (by decide +kernel)) (pi_list (pv 3)) (blkOk_by (own := [("word", 9)]) (N := ["script", "at", "rows", "words", "kind", "more", "free", "key", "name", "word", "pair"]) (sc := defScope s__law_deed) (by decide +kernel)) (fun _ _ _ _ _ => pg_name (i := 9) nd rfl (Or.inl rfl)) (fun _ _ _ _ _ => pts_one (pt_cmpR (r := L2.rIn K true) op_notIn_seq (pv 9) (pe_lc (wi := iList K (tVar 2)) (te := tOp (rIxL K) (tVar 10) (tC (V.int 1))) (own := [("pair", 10)]) (g := gName 10) (tt := tYes) rfl nd (pi_list (pv 2)) (blkOk_by (own := [("pair", 10)]) (N := ["script", "at", "rows", "words", "kind", "more", "free", "key", "name", "word", "pair"]) (sc := relS (ddSc (defBody s__law_deed)) (defScope s__law_deed)) (by decide +kernel)) (fun _ _ _ _ _ => pg_name (i := 10) nd rfl (Or.inl rfl)) (fun _ _ _ _ _ => pts_nil) (fun _ _ _ _ _ => (pe_ix (r := rIxL K) ix_list (pv 10) pe_int (fun _ _ => rfl)))) (by rfl))) (fun _ _ _ _ _ => (pv 9)))
      (C8.pss_cut (ps_set (i := 7) nd rfl (Or.inl rfl) (pe_ix (r := rIxT K) ix_tup (pe_tup (pa_cons (pe_op op_sub (pe_op op_mod (pe_callTy call_int1 (by rfl) T.g_int (by decide +kernel) (pa_cons (pe_op op_fdiv (pv 5) pe_int) pa_nil)) pe_int) pe_int) (pa_cons (pe_op op_sub (pe_op op_mod (pe_callTy call_int1 (by rfl) T.g_int (by decide +kernel) (pa_cons (pe_op op_fdiv (pv 5) pe_int) pa_nil)) pe_int) pe_int) (pa_cons (pe_op op_sub (pe_op op_mod (pe_callTy call_int1 (by rfl) T.g_int (by decide +kernel) (pa_cons (pe_op op_fdiv (pv 5) pe_int) pa_nil)) pe_int) (pe_op op_pow pe_int pe_int)) pa_nil)))) (pe_op op_mod (pe_callTy call_int1 (by rfl) T.g_int (by decide +kernel) (pa_cons (pv 5) pa_nil)) pe_int) (fun _ _ => rfl)))
      (C8.pss_cut (ps_if (PW.pt (pw_or (pt_cmpR (op_eqD hu) (pv 2) (pe_lst pa_nil) (nomark _)) (pw_or1 (PW.pt (pw_and (pt_cmpR op_lt (pv 4) pe_int (nomark _)) (pw_and1 (pt_cmpR op_lt (pe_callB (r := rLn K) call_len_seq (by rfl) T.g_len PySem.boot_len (pa_cons (pv 2) pa_nil)) pe_int (nomark _)))))))) (pss_one (ps_ret (pe_tup (pa_cons pe_str (pa_cons (pe_ix (r := rIxL K) ix_list (pv 6) (pe_op op_mod (pe_callTy call_int1 (by rfl) T.g_int (by decide +kernel) (pa_cons (pe_op op_fdiv (pv 5) pe_int) pa_nil)) (pe_callB (r := rLn K) call_len_seq (by rfl) T.g_len PySem.boot_len (pa_cons (pv 6) pa_nil))) (fun _ _ => rfl)) (pa_cons (pv 7) pa_nil)))))) pss_nil)
      (C8.pss_cut (ps_set (i := 8) nd rfl (Or.inl rfl) (pe_ix (r := rIxL K) ix_list (pe_ix (r := rIxL K) ix_list (pv 2) (pe_op op_mod (pe_callTy call_int1 (by rfl) T.g_int (by decide +kernel) (pa_cons (pe_op op_fdiv (pv 5) pe_int) pa_nil)) (pe_callB (r := rLn K) call_len_seq (by rfl) T.g_len PySem.boot_len (pa_cons (pv 2) pa_nil))) (fun _ _ => rfl)) pe_int (fun _ _ => rfl)))
      (C8.pss_cut (ps_if (pt_cmpR op_lt (pv 4) pe_int (nomark _)) (pss_one (ps_ret (pe_tup (pa_cons pe_str (pa_cons (pv 8) (pa_cons (pv 7) pa_nil)))))) pss_nil)
      (pss_one (ps_ret (pe_ifExp (pt_cmpR op_lt (pv 4) pe_int (nomark _)) (pe_tup (pa_cons pe_str (pa_cons (pv 8) pa_nil))) (pe_tup (pa_cons pe_str pa_nil)))))))))))), ?_⟩
    refine ⟨fun σ' H' => ∃ W : Addr, σ' = [some (.ref a), some (.int i), some (.ref R), some (.ref W), none, none, none, none, none, none, none] ∧ Same H H' ∧ H' W = some (.lst (wordsL.map V.str)), ?_, ?_⟩
    · exact ⟨by show 15 ≤ sizeLine; decide, fun W nW => ⟨W, rfl, Same.up nW, upd_same⟩⟩
    rintro σ' H1 ⟨W, rfl, s1, eW⟩
    refine ⟨fun σ' H' => ∃ (kd mo : Int), σ' = [some (.ref a), some (.int i), some (.ref R), some (.ref W), some (.int kd), some (.int mo), none, none, none, none, none] ∧ Same H H' ∧ H' W = some (.lst (wordsL.map V.str)), ?_, ?_⟩
    · refine ⟨_, rfl, _, rfl, a, ns, i, rfl, s1.seq ha, h63, by omega, fun H2 r2 s2 => .inl ⟨_, rfl, _, _, rfl, rfl, by show (0 : Int) < 8; decide, _, rfl, _, rfl, _, _, rfl, rfl, a, ns, i + 1, congrArg (fun z => [V.ref a, V.int z]) (by omega), s2.seq (s1.seq ha), h63, by omega, fun H3 r3 s3 => .inl ⟨_, rfl, _, _, rfl, ?_⟩⟩⟩
      exact ⟨_, _, rfl, s1.trans (s2.trans s3), s3 _ _ (s2 _ _ eW)⟩
    rintro σ' H2 ⟨kd, mo, rfl, s2, eW2⟩
    refine ⟨fun σ' H' => ∃ F : Addr, σ' = [some (.ref a), some (.int i), some (.ref R), some (.ref W), some (.int kd), some (.int mo), some (.ref F), none, none, none, none] ∧ Same H H' ∧ H' F = some (.lst ((freeL zs).map V.str)), ?_, ?_⟩
    · refine ⟨_, rfl, W, rfl, ⟨_, SqL.of eW2⟩, fun F nF => ?_⟩
      refine lc_it (walk_list (xs := wordsL.map V.str)) (fun j H' => Acc H2 F (((wordsL.take j).filter fun z => decide (z ∉ names (prs zs))).map V.str) H') (Acc.start nF) (fun j H' _ ac => ac.s.seq (SqL.of eW2)) ?_ ?_
      · rintro j x H6 H7 hj ac ⟨rfl, ex⟩
        have hj2 : j < wordsL.length := by rw [List.length_map] at hj; exact hj
        obtain rfl : x = V.str wordsL[j] := by
          rw [List.getElem?_map, List.getElem?_eq_getElem hj2] at ex
          exact (Option.some.inj ex).symm
        have R7 := hR.same (s2.trans ac.s)
        refine ⟨rfl, _, rfl, _, rfl, R, rfl, ⟨_, SqL.of R7.a⟩, fun L nL => ?_⟩
        refine lc_it (walk_list (xs := zs.map fun z => V.ref z.1)) (fun m H' => Acc H7 L (((zs.take m).map fun z => z.2.2).map V.str) H') (Acc.start nL) (fun m H' _ ac => ac.s.seq (SqL.of R7.a)) ?_ ?_
        · rintro m y H8 H9 hm ac2 ⟨rfl, ey⟩
          have hm2 : m < zs.length := by rw [List.length_map] at hm; exact hm
          obtain rfl : y = V.ref zs[m].1 := by
            rw [List.getElem?_map, List.getElem?_eq_getElem hm2] at ey
            exact (Option.some.inj ey).symm
          refine ⟨rfl, iteT (B := Acc H7 L (((zs.take (m + 1)).map fun z => z.2.2).map V.str) H9) ⟨_, rfl, _, _, _, _, rfl, rfl, SqL.of ((R7.same ac2.s).it _ (List.getElem_mem hm2)).2.2, rfl, _, ac2.a, small1000 (by rw [List.length_map, List.length_map, List.length_take]; omega), ?_⟩⟩
          rw [← List.take_append_getElem hm2, List.map_append, List.map_append]
          exact ac2.push
        · intro H9 ac2
          rw [List.length_map, List.take_length, ← names_prs] at ac2
          refine ⟨L, _, rfl, .inl (SqL.of ac2.a), rfl, strs_flat _, _, rfl, ?_⟩
          have ac3 := ac.same ac2.s
          have et : wordsL.take (j + 1) = wordsL.take j ++ [wordsL[j]] := (List.take_append_getElem hj2).symm
          by_cases hm : wordsL[j] ∈ names (prs zs)
          · refine ite_b (c := false) (by rw [inV_strs, decide_eq_true hm]; rfl) (iteF ?_)
            rw [et, List.filter_append, List.filter_cons, if_neg (by simp [hm]), List.filter_nil, List.append_nil]
            exact ac3
          · refine ite_b (c := true) (by rw [inV_strs, decide_eq_false hm]; rfl) (iteT ?_)
            refine ⟨_, rfl, _, ac3.a, small1000 (by rw [List.length_map]; have := List.length_filter_le (fun z => decide (z ∉ names (prs zs))) (wordsL.take j); rw [List.length_take] at this; have hw : wordsL.length = 15 := rfl; omega), ?_⟩
            rw [et, List.filter_append, List.filter_cons, if_pos (decide_eq_true hm), List.filter_nil, List.map_append]
            exact ac3.push
      · intro H6 ac
        rw [List.length_map, List.take_length] at ac
        exact ⟨F, rfl, s2.trans ac.s, ac.a⟩
    rintro σ' H3 ⟨F, rfl, s3, eF⟩
    have h3 : ∃ ky : Int, (-1000000000 ≤ ky ∧ ky ≤ 1000000000) ∧ atI [V.int (mo / 17 % 7 - 3), V.int (mo / 17 % 41 - 20), V.int (mo / 17 % 2000000001 - (10 : Int) ^ (9 : Int).toNat)] (mo % 3) = some (.int ky) := by
      obtain ⟨n, e, hn⟩ := emodN mo 3 (by decide)
      obtain ⟨n1, e1, hn1⟩ := emodN (mo / 17) 7 (by decide)
      obtain ⟨n2, e2, hn2⟩ := emodN (mo / 17) 41 (by decide)
      obtain ⟨n3, e3, hn3⟩ := emodN (mo / 17) 2000000001 (by decide)
      have e1 : mo / 17 % 7 = (n1 : Int) := e1
      have e2 : mo / 17 % 41 = (n2 : Int) := e2
      have e3 : mo / 17 % 2000000001 = (n3 : Int) := e3
      have ep : (10 : Int) ^ (9 : Int).toNat = 1000000000 := by decide
      rw [show mo % 3 = (n : Int) from e, e1, e2, e3, ep]
      obtain rfl | rfl | rfl : n = 0 ∨ n = 1 ∨ n = 2 := by omega
      · exact ⟨_, by omega, rfl⟩
      · exact ⟨_, by omega, rfl⟩
      · exact ⟨_, by omega, rfl⟩
    obtain ⟨ky, hky, eky⟩ := h3
    refine ⟨fun σ' H' => σ' = [some (.ref a), some (.int i), some (.ref R), some (.ref W), some (.int kd), some (.int mo), some (.ref F), some (.int ky), none, none, none] ∧ Same H H' ∧ H' F = some (.lst ((freeL zs).map V.str)), ?_, ?_⟩
    · refine ⟨_, rfl, _, _, rfl, rfl, ⟨by decide, by decide⟩, .inl ⟨_, rfl, _, _, rfl, rfl, by show (0 : Int) < 7; decide, _, _, rfl, rfl, _, rfl, _, _, rfl, rfl, ⟨by decide, by decide⟩, .inl ⟨_, rfl, _, _, rfl, rfl, by show (0 : Int) < 41; decide, _, _, rfl, rfl, _, rfl, _, _, rfl, rfl, ⟨by decide, by decide⟩, .inl ⟨_, rfl, _, _, rfl, rfl, by show (0 : Int) < 2000000001; decide, _, _, rfl, rfl, ⟨by decide, by decide, by decide⟩, _, _, rfl, rfl, by show 3 ≤ sizeLine; decide, fun z nz => ?_⟩⟩⟩⟩
      have sz := Same.up (o := .tup [V.int (mo / 17 % 7 - 3), V.int (mo / 17 % 41 - 20), V.int (mo / 17 % 2000000001 - (10 : Int) ^ (9 : Int).toNat)]) nz
      exact ⟨_, rfl, .inl ⟨_, rfl, _, _, rfl, rfl, by show (0 : Int) < 3; decide, z, _, _, _, rfl, rfl, SqT.of upd_same, eky, rfl, s3.trans sz, sz _ _ eF⟩⟩
    rintro σ' H4 ⟨rfl, s4, eF4⟩
    have R4 := hR.same s4
    refine ⟨fun σ' H' => σ' = [some (.ref a), some (.int i), some (.ref R), some (.ref W), some (.int kd), some (.int mo), some (.ref F), some (.int ky), none, none, none] ∧ Same H H' ∧ 0 < zs.length, ?_, ?_⟩
    · have fin : ∀ H5, Same H4 H5 → zs.length < 12 → ∃ p : Addr, True := fun _ _ _ => ⟨0, trivial⟩
      have hfp := free_pos hl12
      obtain ⟨n5, e5, hn5⟩ := emodN (mo / 5) (freeL zs).length hfp
      have hfm := free_mem (zs := zs) (getD_mem e0 hn5)
      refine ⟨_, rfl, Nat.zero_le _, fun y ny => ?_⟩
      have sy := Same.up (o := .lst []) ny
      have ey : upd H4 y (.lst []) y = _ := upd_same
      have R5 := R4.same sy
      have s5 := s4.trans sy
      have eF5 := sy _ _ eF4
      generalize upd H4 y (.lst []) = H5 at sy ey R5 s5 eF5
      refine ⟨.list (zs.map rowD), .list [], .lst (SqL.of R5.a) (rows_dp _ fun z hz => (R5.it z hz).2.2), .lst (SqL.of ey) .nil, rows_sh hW.lay, rows_sh (zs := []) (fun z hz => nomatch hz), _, rfl, ?_⟩
      rw [rows_emp]
      have put : zs.length < 12 → ∀ D, H5 D = none → Q (.ref D) (upd H5 D (.tup [.str "put", .str ((freeL zs).getD n5 e0), .int ky])) := fun hl D nD => q _ D (.put ((freeL zs).getD n5 e0) ky) (s5.trans (Same.up nD)) upd_same ⟨hfm.1, hfm.2, hky, hl⟩
      have e5' : atI ((freeL zs).map V.str) (mo / 5 % (((freeL zs).map V.str).length : Nat)) = some (.str ((freeL zs).getD n5 e0)) := by
        rw [List.length_map, e5]
        exact atV_nat V.str e0 hn5
      by_cases h0 : zs = []
      · rw [decide_eq_true h0]
        refine iteT ?_
        refine iteT ?_
        refine ⟨_, rfl, _, rfl, _, _, rfl, rfl, ⟨by decide, by decide⟩, .inl ⟨_, rfl, _, rfl, F, _, rfl, .inl (SqL.of eF5), _, _, rfl, rfl, by show (0 : Int) < (((freeL zs).map V.str).length : Nat); rw [List.length_map]; omega, F, _, _, _, rfl, rfl, SqL.of eF5, e5', _, rfl, by show 3 ≤ sizeLine; decide, put (by rw [h0]; decide)⟩⟩
      · rw [decide_eq_false h0]
        have hz : 0 < zs.length := List.length_pos_iff.mpr h0
        refine iteF ⟨_, rfl, _, _, rfl, rfl, _, rfl, ?_⟩
        by_cases h3 : kd < 3
        · rw [decide_eq_true h3]
          refine iteT ⟨_, rfl, R, _, rfl, .inl (SqL.of R5.a), _, _, rfl, rfl, _, rfl, ?_⟩
          rw [List.length_map]
          by_cases h4 : zs.length < 12
          · rw [decide_eq_true (show ((zs.length : Nat) : Int) < 12 by omega)]
            refine iteT ?_
            refine ⟨_, rfl, _, rfl, _, _, rfl, rfl, ⟨by decide, by decide⟩, .inl ⟨_, rfl, _, rfl, F, _, rfl, .inl (SqL.of eF5), _, _, rfl, rfl, by show (0 : Int) < (((freeL zs).map V.str).length : Nat); rw [List.length_map]; omega, F, _, _, _, rfl, rfl, SqL.of eF5, e5', _, rfl, by show 3 ≤ sizeLine; decide, put h4⟩⟩
          · rw [decide_eq_false (show ¬ ((zs.length : Nat) : Int) < 12 by omega)]
            exact iteF ⟨rfl, s5, hz⟩
        · rw [decide_eq_false h3]
          exact iteF (iteF ⟨rfl, s5, hz⟩)
    rintro σ' H5 ⟨rfl, s5, hz⟩
    have R5 := hR.same s5
    refine ⟨fun σ' H' => ∃ n : Str, σ' = [some (.ref a), some (.int i), some (.ref R), some (.ref W), some (.int kd), some (.int mo), some (.ref F), some (.int ky), some (.str n), none, none] ∧ H' = H5 ∧ n ∈ names (prs zs), ?_, ?_⟩
    · obtain ⟨n5, e5, hn5⟩ := emodN (mo / 5) zs.length hz
      refine ⟨_, rfl, _, rfl, _, _, rfl, rfl, ⟨by decide, by decide⟩, .inl ⟨_, rfl, _, rfl, R, _, rfl, .inl (SqL.of R5.a), _, _, rfl, rfl, by show (0 : Int) < ((zs.map fun z => V.ref z.1).length : Nat); rw [List.length_map]; omega, R, _, _, _, rfl, rfl, SqL.of R5.a, by rw [List.length_map, e5]; exact rat hn5, _, _, _, _, rfl, rfl, SqL.of (R5.at_ hn5), rfl, _, rfl, rfl, ?_⟩⟩
      rw [names_prs]
      exact List.mem_map.mpr ⟨_, getD_mem z0 hn5, rfl⟩
    rintro σ' H6 ⟨n, rfl, rfl, hn⟩
    refine ⟨fun σ' H' => σ' = [some (.ref a), some (.int i), some (.ref R), some (.ref W), some (.int kd), some (.int mo), some (.ref F), some (.int ky), some (.str n), none, none] ∧ H' = H6, ?_, ?_⟩
    · refine ⟨_, rfl, _, _, rfl, rfl, _, rfl, ?_⟩
      by_cases h : kd < 5
      · rw [decide_eq_true h]
        exact iteT ⟨_, rfl, _, rfl, by show 3 ≤ sizeLine; decide, fun D nD => q _ D (.chg n ky) (s5.trans (Same.up nD)) upd_same ⟨hn, hky⟩⟩
      · rw [decide_eq_false h]
        exact iteF ⟨rfl, rfl⟩
    rintro σ' H7 ⟨rfl, rfl⟩
    refine ⟨_, rfl, _, _, rfl, rfl, _, rfl, ?_⟩
    by_cases h : kd < 6
    · rw [decide_eq_true h]
      exact iteT ⟨_, rfl, by show 2 ≤ sizeLine; decide, fun D nD => q _ D (.drp n) (s5.trans (Same.up nD)) upd_same hn⟩
    · rw [decide_eq_false h]
      exact iteF ⟨by show 1 ≤ sizeLine; decide, fun D nD => q _ D .tak (s5.trans (Same.up nD)) upd_same hz⟩
def lastW (l : List Nat) : Nat := l.getLastD 0
/-- the children as the law looks for them -/
def kidL (n w i : Nat) : List Nat := ((List.range (n - 1)).filter fun j => decide (j / w = i)).map (· + 1)
def leastC (ks : List Int) (l : List Nat) : Nat := l.getD (PySem.argBest (fun i j => decide (keyAt ks (l.getD i 0) < keyAt ks (l.getD j 0))) (l.length - 1)) 0
def dnW (n w : Nat) : Nat → List Int → Nat → List Nat
  | 0, _, p => [p]
  | f + 1, ks, p => if kidL n w p = [] then [p] else if keyAt ks (leastC ks (kidL n w p)) < keyAt ks p then p :: dnW n w f (swp ks p (leastC ks (kidL n w p))) (leastC ks (kidL n w p)) else [p]
def setP (w : Nat) (ks : List Int) (i : Nat) (k : Int) : List Nat := if keyAt ks i < k then dnW ks.length w 20 (ks.set i k) i else upW w 20 (ks.set i k) i
/-- all but one object and the tables stay -/
def ButP (p : Addr) (H H' : Hp) : Prop := ∀ b o, H b = some o → (∀ ps, o ≠ .tbl ps) → b ≠ p → H' b = some o
theorem ButP.of {p : Addr} {H H' : Hp} (e : LamX.ExtN H H') : ButP p H H' := fun b o h n _ => e b o h n
theorem ButP.put {p : Addr} {H : Hp} (o : HO) : ButP p H (upd H p o) := fun b u h _ k => by rw [upd_ne k]; exact h
/-- its attributes -/
def tf (n w t : Nat) : List (Str × V) := putF "_places" (.ref t) (putF "arms" (.int w) (putF "many" (.int n) []))
/-- a tree of n places and w arms stands at p -/
structure TreeAt (C : Addr) (H : Hp) (p n w : Nat) : Prop where
  ob : ∃ dx t, H p = some (.ins C dx (tf n w t)) ∧ H t = some (.tup (pl n))
  hn : n ≤ 12
  hw : 1 ≤ w ∧ w ≤ 4
theorem TreeAt.same {C : Addr} {H H' : Hp} {p n w : Nat} (h : TreeAt C H p n w) (s : Same H H') : TreeAt C H' p n w :=
  ⟨let ⟨dx, t, a, b⟩ := h.ob; ⟨dx, t, s _ _ a, s _ _ b⟩, h.hn, h.hw⟩
/-- a list or a tuple -/
def Sq (H : Hp) (a : Addr) (xs : List V) : Prop := H a = some (.lst xs) ∨ H a = some (.tup xs)
theorem Sq.same {H H' : Hp} {a : Addr} {xs : List V} (h : Sq H a xs) (s : Same H H') : Sq H' a xs := h.elim (fun e => .inl (s _ _ e)) fun e => .inr (s _ _ e)
def RowIn (H : Hp) (a : Addr) (ns : List Int) : Prop := Sq H a (ns.map V.int) ∧ ns.length ≤ 12 ∧ (∀ n ∈ ns, -1000000000 ≤ n ∧ n ≤ 1000000000)
theorem RowIn.same {H H' : Hp} {a : Addr} {ns : List Int} (h : RowIn H a ns) (s : Same H H') : RowIn H' a ns := ⟨h.1.same s, h.2⟩
theorem Sq.len {K : PySem.W.Frag} {H : Hp} {a : Addr} {xs : List V} (h : Sq H a xs) : SqL K H a xs ∨ SqT K H a xs := h.elim (fun e => .inl (SqL.of e)) fun e => .inr (SqT.of e)
def zf (t1 t2 lk : Nat) : List (Str × V) := putF "looks" (.int lk) (putF "way" (.ref t2) (putF "row" (.ref t1) []))
/-- a Sift stands at p -/
def SiftAt (C : Addr) (H : Hp) (p : Addr) (ks ws : List Int) (lk : Nat) : Prop := ∃ (dx t1 t2 : Addr), H p = some (.ins C dx (zf t1 t2 lk)) ∧ H t1 = some (.tup (ks.map V.int)) ∧ H t2 = some (.tup (ws.map V.int))
theorem SiftAt.ext {C : Addr} {H H' : Hp} {p : Addr} {ks ws : List Int} {lk : Nat} (h : SiftAt C H p ks ws lk) (e : ∀ b o, H b = some o → (∀ ps, o ≠ .tbl ps) → H' b = some o) : SiftAt C H' p ks ws lk := by
  obtain ⟨dx, t1, t2, a, b, c⟩ := h
  exact ⟨dx, t1, t2, e _ _ a (fun ps z => nomatch z), e _ _ b (fun ps z => nomatch z), e _ _ c (fun ps z => nomatch z)⟩
theorem SiftAt.same {C : Addr} {H H' : Hp} {p : Addr} {ks ws : List Int} {lk : Nat} (h : SiftAt C H p ks ws lk) (s : Same H H') : SiftAt C H' p ks ws lk := h.ext fun b o e _ => s b o e
/-- two lists of one's own, where code may be made -/
structure TwoE (T : List (Addr × Str)) (H : Hp) (D W : Addr) (xs ys : List V) (H' : Hp) : Prop where
  e : ExtN H H'
  t : Tabs T H'
  d : H' D = some (.lst xs)
  w : H' W = some (.lst ys)
  nD : H D = Option.none
  nW : H W = Option.none
  ne : D ≠ W
theorem tabs_upd {T : List (Addr × Str)} {H : Hp} {D : Addr} {xs : List V} {o : HO} (t : Tabs T H) (h : H D = some (.lst xs)) : Tabs T (upd H D o) := fun p hp => by
  obtain ⟨ps, h1, h2, h3⟩ := t p hp
  refine ⟨ps, by rw [upd_ne (ne_of h1 h (by intro z; cases z))]; exact h1, h2, fun pos cv hc => ?_⟩
  obtain ⟨c, e1, e2⟩ := h3 pos cv hc
  exact ⟨c, e1, by rw [upd_ne (ne_of e2 h (by intro z; unfold LamX.CodeO at z; cases z))]; exact e2⟩
section
variable {T : List (Addr × Str)} {H H' H2 : Hp} {D W : Addr} {xs ys zs : List V}
theorem TwoE.setD (h : TwoE T H D W xs ys H') : TwoE T H D W zs ys (upd H' D (.lst zs)) :=
  ⟨fun b o e n => by rw [upd_ne (ne_of_none e h.nD)]; exact h.e _ _ e n, tabs_upd h.t h.d, upd_same, by rw [upd_ne h.ne.symm]; exact h.w, h.nD, h.nW, h.ne⟩
theorem TwoE.setW (h : TwoE T H D W xs ys H') : TwoE T H D W xs zs (upd H' W (.lst zs)) :=
  ⟨fun b o e n => by rw [upd_ne (ne_of_none e h.nW)]; exact h.e _ _ e n, tabs_upd h.t h.w, by rw [upd_ne h.ne]; exact h.d, upd_same, h.nD, h.nW, h.ne⟩
theorem TwoE.same (h : TwoE T H D W xs ys H') (s : Same H' H2) : TwoE T H D W xs ys H2 := ⟨h.e.trans (extN_of s), h.t.ext s, s _ _ h.d, s _ _ h.w, h.nD, h.nW, h.ne⟩
theorem TwoE.ext (h : TwoE T H D W xs ys H') (e : ExtN H' H2) (t : Tabs T H2) : TwoE T H D W xs ys H2 := ⟨h.e.trans e, t, e _ _ h.d (fun ps z => nomatch z), e _ _ h.w (fun ps z => nomatch z), h.nD, h.nW, h.ne⟩
end
theorem TreeAt.ext {C : Addr} {H H' : Hp} {p n w : Nat} (h : TreeAt C H p n w) (e : ExtN H H') : TreeAt C H' p n w :=
  ⟨let ⟨dx, t, a, b⟩ := h.ob; ⟨dx, t, e _ _ a (fun ps z => nomatch z), e _ _ b (fun ps z => nomatch z)⟩, h.hn, h.hw⟩
theorem Sq.ext {H H' : Hp} {a : Addr} {xs : List V} (h : Sq H a xs) (e : ExtN H H') : Sq H' a xs := h.elim (fun x => .inl (e _ _ x (fun ps z => nomatch z))) fun x => .inr (e _ _ x (fun ps z => nomatch z))
theorem RowIn.ext {H H' : Hp} {a : Addr} {ns : List Int} (h : RowIn H a ns) (e : ExtN H H') : RowIn H' a ns := ⟨h.1.ext e, h.2⟩
/-- two lists of one's own -/
structure Two (H : Hp) (D W : Addr) (xs ys : List V) (H' : Hp) : Prop where
  s : Same H H'
  d : H' D = some (.lst xs)
  w : H' W = some (.lst ys)
  nD : H D = Option.none
  nW : H W = Option.none
  ne : D ≠ W
theorem Two.same {H H' H2 : Hp} {D W : Addr} {xs ys : List V} (h : Two H D W xs ys H') (s : Same H' H2) : Two H D W xs ys H2 := ⟨h.s.trans s, s _ _ h.d, s _ _ h.w, h.nD, h.nW, h.ne⟩
theorem ButP.trans {p : Addr} {H H1 H2 : Hp} (a : ButP p H H1) (b : ButP p H1 H2) : ButP p H H2 := fun c o h n k => b c o (a c o h n k) n k
/-- where a name stands first -/
def AtN (ps : List Pr) (i : Nat) (n : Str) : Prop := (names ps)[i]? = some n ∧ ∀ m, m < i → (names ps)[m]? ≠ some n
theorem AtN.lt {ps : List Pr} {i : Nat} {n : Str} (h : AtN ps i n) : i < ps.length := by
  have := (List.getElem?_eq_some_iff.mp h.1).1
  rw [names_len] at this
  exact this
theorem atN_of {ps : List Pr} (hn : (names ps).Nodup) {i : Nat} (hi : i < ps.length) : AtN ps i (ps.getD i d0).2 := by
  have hi2 : i < (names ps).length := by rw [names_len]; exact hi
  have e : (names ps)[i]? = some (ps.getD i d0).2 := by
    unfold names
    rw [List.getElem?_map, List.getElem?_eq_getElem hi, getD_at d0 hi]
    rfl
  refine ⟨e, fun m hm z => ?_⟩
  have hm2 : m < (names ps).length := by omega
  rw [List.getElem?_eq_getElem hi2] at e
  rw [List.getElem?_eq_getElem hm2] at z
  exact List.pairwise_iff_getElem.mp hn m i hm2 hi2 hm ((Option.some.inj z).trans (Option.some.inj e).symm)
theorem ButP.fr {p d : Addr} {H H' : Hp} (b : ButP p H H') : Fr p d H H' := fun c o h n k1 _ => b c o h n k1
theorem fdJ_hp (w : Int) (t u d : Addr) (b : Int) (m : V) : (fdJ w t u d b m).lookup ("_heap" : Str) = some (.ref t) := (lk_ne (by decide +kernel)).trans lk_eq
theorem fdJ_nm (w : Int) (t u d : Addr) (b : Int) (m : V) : (fdJ w t u d b m).lookup ("_names" : Str) = some (.ref u) := (lk_ne (by decide +kernel)).trans ((lk_ne (by decide +kernel)).trans lk_eq)
theorem SqT.fz {K : PySem.W.Frag} {H H' : Hp} {a : Addr} {xs : List V} (h : SqT K H a xs) (f : Fz H H') : SqT K H' a xs := by
  rcases h with (h | ⟨o, h⟩) | h
  · exact .inl (.inl (f.tup h))
  · exact .inl (.inr ⟨o, f _ _ h (fun _ z => nomatch z) (fun _ _ _ z => nomatch z) (fun _ z => nomatch z)⟩)
  · exact .inr h
theorem NmAt.sq {K : PySem.W.Frag} {H : Hp} {u : Addr} {ns : List Str} (h : NmAt H u ns) : SqT K H u (ns.map V.str) := by
  rcases h with h | ⟨e1, e2⟩
  · exact h.sq
  · rw [e1]
    exact SqT.of e2
def spJlen (C : Addr) : Sp := fun vs H Q _ => ∃ (p w t u d b : Nat) (ps : List Pr) (es : List (Deed × List Pr)), vs = [.ref p] ∧ QAt C H p w t u d b ps es ∧ Q (.int (ps.length : Nat)) H
theorem ok_jlen (T : Tx K mg A) : FnOk P w K mg base CX0 1 A.f_j___len__ A.d_j___len__ ["self"] (spJlen A.CJ) := by
  refine T.F_j___len__.ok sc_j___len__ (fun vs H Q E h => ?_) (fun cdv B outer s H vs Q E hr h => ?_)
  · obtain ⟨p, w, t, u, d, b, ps, es, rfl, _⟩ := h
    rfl
  · obtain ⟨p, w, t, u, d, b, ps, es, rfl, ⟨⟨dx, m, h1⟩, h2, h3, h4⟩, q⟩ := h
    refine ⟨_, (pss_one (ps_ret (pe_callB (r := rLn K) call_len_seq (by rfl) T.g_len PySem.boot_len (pa_cons (pe_fld (pv 0) rfl) pa_nil)))), ?_⟩
    refine ⟨_, rfl, p, A.CJ, dx, _, _, rfl, h1, T.cTJ, T.jNames, fdJ_nm _ _ _ _ _ _, u, _, rfl, .inr h3.sq, ?_⟩
    rw [List.length_map, names_len]
    exact q
theorem b_jlen (T : Tx K mg A) : L2.Binds K A.d_j___len__ ["self"] [] := T.F_j___len__.binds fun _ _ _ _ _ _ us hl => match us, hl with | [_], _ => rfl
def spJcont (K : PySem.W.Frag) (C : Addr) : Sp := fun vs H Q _ => ∃ (p w t u d b : Nat) (ps : List Pr) (es : List (Deed × List Pr)) (x : V), vs = [.ref p, x] ∧ QAt C H p w t u d b ps es ∧
  ((∃ z : Str, x = .str z ∧ Q (.bl (decide (z ∈ names ps))) H) ∨ (∃ c, TyX K H x (.type c) ∧ kitB c "str" = some false ∧ Q (.bl false) H))
theorem ok_jcont (T : Tx K mg A) : FnOk P w K mg base CX0 1 A.f_j___contains__ A.d_j___contains__ ["self", "thing"] (spJcont K A.CJ) := by
  refine T.F_j___contains__.ok sc_j___contains__ (fun vs H Q E h => ?_) (fun cdv B outer s H vs Q E hr h => ?_)
  · obtain ⟨p, w, t, u, d, b, ps, es, x, rfl, _⟩ := h
    rfl
  · obtain ⟨p, w, t, u, d, b, ps, es, x, rfl, ⟨⟨dx, m, h1⟩, h2, h3, h4⟩, q⟩ := h
    refine ⟨_, (pss_one (ps_ret (pe_and (pe_callB (r := rIsi K) call_isi (by rfl) T.g_isinstance (by decide +kernel) (pa_cons (pv 1) (pa_cons (pe_bltn (v := .ty "str") (by rfl) T.g_str (by decide +kernel) rfl) pa_nil))) (pe_one (pe_cmpR (r := L2.rIn K false) op_in_seq (pv 1) (pe_fld (pv 0) rfl) (by rfl)))))), ?_⟩
    rcases q with ⟨z, rfl, q⟩ | ⟨c, ty, k1, q⟩
    · refine ⟨_, rfl, _, _, .type "str", .type "str", true, rfl, .ty "str", .base (.str z), kit_ty (by decide +kernel), true, rfl, iteT ⟨_, rfl, _, rfl, p, A.CJ, dx, _, _, rfl, h1, T.cTJ, T.jNames, fdJ_nm _ _ _ _ _ _, u, _, rfl, .inr h3.sq, rfl, strs_flat _, ?_⟩⟩
      rw [if_neg Bool.false_ne_true, inV_strs]
      exact q
    · exact ⟨_, rfl, _, _, .type c, .type "str", false, rfl, .ty "str", ty, kit_ty k1, false, rfl, iteF q⟩
theorem b_jcont (T : Tx K mg A) : L2.Binds K A.d_j___contains__ ["self", "thing"] [] := T.F_j___contains__.binds fun _ _ _ _ _ _ us hl => match us, hl with | [_, _], _ => rfl
def wayJ (g : Bool) (w : Nat) (ks : List Int) (i : Nat) : List Nat := if g = true then dnW ks.length w 20 ks i else upW w 20 ks i
theorem fdJ_arms (w : Int) (t u d : Addr) (b : Int) (m : V) : (fdJ w t u d b m).lookup ("arms" : Str) = some (.int w) := lk_eq
def goDown (n w : Nat) : Nat → List Int → Nat → List Nat → Nat → List Int × List Nat × Nat
  | 0, ks, _, way, lk => (ks, way, lk)
  | f + 1, ks, p, way, lk => if kidL n w p = [] then (ks, way, lk) else
      if keyAt ks (leastC ks (kidL n w p)) < keyAt ks p then goDown n w f (swp ks p (leastC ks (kidL n w p))) (leastC ks (kidL n w p)) (way ++ [leastC ks (kidL n w p)]) (lk + (kidL n w p).length)
      else (ks, way, lk + (kidL n w p).length)
theorem goDown_stay {n w f : Nat} {ks : List Int} {p : Nat} {way : List Nat} {lk : Nat} (h0 : kidL n w p ≠ []) (h : ¬ keyAt ks (leastC ks (kidL n w p)) < keyAt ks p) : goDown n w (f + 1) ks p way lk = (ks, way, lk + (kidL n w p).length) := by
  rw [goDown, if_neg h0, if_neg h]
theorem goDown_go {n w f : Nat} {ks : List Int} {p b : Nat} {way : List Nat} {lk : Nat} (h0 : kidL n w p ≠ []) (eb : leastC ks (kidL n w p) = b) (h : keyAt ks b < keyAt ks p) :
    goDown n w (f + 1) ks p way lk = goDown n w f (swp ks p b) b (way ++ [b]) (lk + (kidL n w p).length) := by
  rw [goDown, if_neg h0, eb, if_pos h]
theorem dnW_head (n w : Nat) : ∀ f ks p, ∃ l, dnW n w f ks p = p :: l
  | 0, ks, p => ⟨[], rfl⟩
  | f + 1, ks, p => by
    unfold dnW
    split
    · exact ⟨_, rfl⟩
    · split <;> exact ⟨_, rfl⟩
theorem goDown_dnW (n w : Nat) : ∀ f ks p pre lk, (goDown n w f ks p (pre ++ [p]) lk).1 = mvG 0 (dnW n w f ks p) ks ∧ (goDown n w f ks p (pre ++ [p]) lk).2.1 = pre ++ dnW n w f ks p
  | 0, ks, p, pre, lk => ⟨rfl, rfl⟩
  | f + 1, ks, p, pre, lk => by
    by_cases h0 : kidL n w p = []
    · rw [goDown, dnW, if_pos h0, if_pos h0]
      exact ⟨rfl, rfl⟩
    · by_cases hlt : keyAt ks (leastC ks (kidL n w p)) < keyAt ks p
      · rw [goDown_go h0 rfl hlt, dnW, if_neg h0, if_pos hlt]
        generalize leastC ks (kidL n w p) = b
        obtain ⟨e1, e2⟩ := goDown_dnW n w f (swp ks p b) b (pre ++ [p]) (lk + (kidL n w p).length)
        obtain ⟨l, el⟩ := dnW_head n w f (swp ks p b) b
        refine ⟨?_, ?_⟩
        · rw [e1, el, mvG]
          rfl
        · rw [e2, List.append_assoc]
          rfl
      · rw [goDown_stay h0 hlt, dnW, if_neg h0, if_neg hlt]
        exact ⟨rfl, rfl⟩
theorem ixN_nat {n p : Nat} (h : p < n) : ixN n (p : Int) = some p := by
  unfold ixN
  rw [if_pos (by omega), if_pos (by omega), Int.toNat_natCast]
theorem kb_down (T : Tx K mg A) : ∃ mv : List Value, KBn K A.d_sift_down ["row", "place", "arms"] 2 ["arms"] (fun us ws => us ++ (mv ++ ws)) (fun vs zs => vs ++ zs) := by
  obtain ⟨mv, h⟩ := T.F_sift_down.kbinds0 (ps := ["row", "place", "arms"]) 2 ["arms"] [] (fun us mv ws => us ++ (mv ++ ws)) (by simp) (by simp) (fun r1 r2 r3 => r1.append (r2.append r3))
    (fun D doc pm an cdv ct us mv ws h1 h2 h3 => by
      match us, mv, ws, h1, h2, h3 with
      | [a, b], [], [c], _, _, _ => rfl)
  exact ⟨mv, h⟩
theorem kb_up (T : Tx K mg A) : ∃ mv : List Value, KBn K A.d_sift_up ["row", "place", "arms"] 2 ["arms"] (fun us ws => us ++ (mv ++ ws)) (fun vs zs => vs ++ zs) := by
  obtain ⟨mv, h⟩ := T.F_sift_up.kbinds0 (ps := ["row", "place", "arms"]) 2 ["arms"] [] (fun us mv ws => us ++ (mv ++ ws)) (by simp) (by simp) (fun r1 r2 r3 => r1.append (r2.append r3))
    (fun D doc pm an cdv ct us mv ws h1 h2 h3 => by
      match us, mv, ws, h1, h2, h3 with
      | [a, b], [], [c], _, _, _ => rfl)
  exact ⟨mv, h⟩
def wz (l : List Nat) : List Int := l.map fun i => ((i : Nat) : Int)
theorem least_of {ks : List Int} {l : List Nat} {j : Nat} (h : Cl.FirstLeast (fun i => keyAt ks (l.getD i 0)) l.length j) : l.getD j 0 = leastC ks l := by
  have h0 := h.1
  obtain ⟨n, en⟩ : ∃ n, l.length = n + 1 := ⟨l.length - 1, by omega⟩
  have b := Cl.best_is (fun i => keyAt ks (l.getD i 0)) n
  rw [← en] at b
  unfold leastC
  rw [Cl.first_one h b, show l.length - 1 = n by omega]
theorem least_mem {ks : List Int} {l : List Nat} (h : l ≠ []) : leastC ks l ∈ l := by
  obtain ⟨n, en⟩ : ∃ n, l.length = n + 1 := ⟨l.length - 1, by have := List.length_pos_iff.mpr h; omega⟩
  have b := Cl.best_is (fun i => keyAt ks (l.getD i 0)) n
  rw [← en] at b
  rw [← least_of b, List.getD_eq_getElem?_getD, List.getElem?_eq_getElem b.1]
  exact List.getElem_mem b.1
theorem kid_in {n w i j : Nat} (hw : 1 ≤ w) (h : j ∈ kidL n w i) : i < j ∧ j < n := by
  unfold kidL at h
  obtain ⟨k, hk, rfl⟩ := List.mem_map.mp h
  obtain ⟨h1, h2⟩ := List.mem_filter.mp hk
  have h1 := List.mem_range.mp h1
  have h2 := of_decide_eq_true h2
  have : k / w ≤ k := Nat.div_le_self _ _
  omega
end
end Tw

set_option Elab.async false
set_option linter.all false
set_option maxRecDepth 100000
set_option maxHeartbeats 2000000
namespace Tw
open PySem PySem.Spec PyProof.Rows L2
section
variable {P : Program} {w : World} {K : PySem.W.Frag} {mg : Str → Option Value} {base : Heap} {A : Ad}
open LamX (ExtN Tabs TabS)
theorem goDown_leaf {n w f : Nat} {ks : List Int} {p : Nat} {way : List Nat} {lk : Nat} (h : kidL n w p = []) : goDown n w f ks p way lk = (ks, way, lk) := by
  cases f with
  | zero => rfl
  | succ f => rw [goDown, if_pos h]
theorem key_at {ks : List Int} {p : Nat} (h : p < ks.length) : atI (ks.map V.int) (p : Int) = some (V.int (keyAt ks p)) := by
  have e : (ks.map V.int)[p]? = some (V.int (keyAt ks p)) := by
    unfold keyAt
    rw [List.getElem?_map, List.getD_eq_getElem?_getD, List.getElem?_eq_getElem h]
    rfl
  exact atI_nat e
def vi (l : List Nat) : List V := l.map fun i => V.int (i : Nat)
theorem kb_of (T : Tx K mg A) : ∃ mv : List Value, KBn K A.d_t_of ["cls", "row", "arms"] 2 ["arms"] (fun us ws => us ++ (mv ++ ws)) (fun vs zs => vs ++ zs) := by
  obtain ⟨mv, h⟩ := T.F_t_of.kbinds0 (ps := ["cls", "row", "arms"]) 2 ["arms"] [] (fun us mv ws => us ++ (mv ++ ws)) (by simp) (by simp) (fun r1 r2 r3 => r1.append (r2.append r3))
    (fun D doc pm an cdv ct us mv ws h1 h2 h3 => by
      match us, mv, ws, h1, h2, h3 with
      | [a, b], [], [c], _, _, _ => rfl)
  exact ⟨mv, h⟩
theorem kb_init (T : Tx K mg A) : ∃ mv : List Value, KBn K A.d_t___init__ ["self", "many", "arms"] 2 ["arms"] (fun us ws => us ++ (mv ++ ws)) (fun vs zs => vs ++ zs) := by
  obtain ⟨mv, h⟩ := T.F_t___init__.kbinds0 (ps := ["self", "many", "arms"]) 2 ["arms"] [] (fun us mv ws => us ++ (mv ++ ws)) (by simp) (by simp) (fun r1 r2 r3 => r1.append (r2.append r3))
    (fun D doc pm an cdv ct us mv ws h1 h2 h3 => by
      match us, mv, ws, h1, h2, h3 with
      | [a, b], [], [c], _, _, _ => rfl)
  exact ⟨mv, h⟩
def spCm : Sp := fun vs H Q _ => ∃ i : Int, vs = [.int i] ∧ (0 ≤ i ∧ i ≤ 12) ∧ Q .non H
theorem ok_cm (T : Tx K mg A) : FnOk P w K mg base CX0 3 A.f_check_many A.d_check_many ["many"] spCm := by
  refine T.F_check_many.ok sc_check_many (fun vs H Q E h => ?_) (fun cdv B outer s H vs Q E hr h => ?_)
  · obtain ⟨i, rfl, _⟩ := h
    rfl
  · obtain ⟨i, rfl, hi, q⟩ := h
    obtain ⟨t, hg⟩ := cst T.c_MOST_PLACES
    refine ⟨_, pss_one (ps_if (pt_not (pt_val (pe_call (ok_ii T) hr (by rfl) T.m_is_integer_from T.F_is_integer_from.kp (b_ii T) .nil pass0
      (pa_cons (pv 0) (pa_cons pe_int (pa_cons (pe_glob (by rfl) hg (relI _ _)) pa_nil)))))) (pss_one ps_never) pss_nil), ?_⟩
    refine ⟨_, rfl, _, _, _, rfl, .inl ⟨i, rfl, _, rfl, ?_⟩⟩
    rw [decide_eq_true hi]
    exact iteF q
theorem b_cm (T : Tx K mg A) : L2.Binds K A.d_check_many ["many"] [] := T.F_check_many.binds fun _ _ _ _ _ _ us hl => match us, hl with | [_], _ => rfl
theorem rg_pl (n : Nat) : rgV 0 (n : Int) = pl n := by
  unfold rgV pl
  rw [show ((n : Int) - 0).toNat = n by omega]
  exact congrArg (fun f => (List.range n).map f) (funext fun i => by rw [Int.zero_add])
def spInit (C : Addr) : Sp := fun vs H Q _ => ∃ (p dx n w : Nat), vs = [.ref p, .int n, .int w] ∧ n ≤ 12 ∧ (1 ≤ w ∧ w ≤ 4) ∧ H p = some (.ins C dx []) ∧
  ∀ (H' : Hp), (∀ b o, H b = some o → b ≠ p → H' b = some o) → TreeAt C H' p n w → Q .non H'
theorem ok_init (T : Tx K mg A) : FnOk P w K mg base CX0 4 A.f_t___init__ A.d_t___init__ ["self", "many", "arms"] (spInit A.C) := by
  refine T.F_t___init__.ok sc_t___init__ (fun vs H Q E h => ?_) (fun cdv B outer s H vs Q E hr h => ?_)
  · obtain ⟨p, dx, n, w, rfl, _⟩ := h
    rfl
  · obtain ⟨p, dx, n, w, rfl, hn, hw, hp, q⟩ := h
    refine ⟨_, PSs.nox (pss_cons (ps_expr (pe_call (ok_ca T) hr (by rfl) T.m_check_arms T.F_check_arms.kp (b_ca T) .nil pass0 (pa_cons (pv 2) pa_nil)))
      (pss_cons (ps_expr (pe_call (ok_cm T) hr (by rfl) T.m_check_many T.F_check_many.kp (b_cm T) .nil pass0 (pa_cons (pv 1) pa_nil)))
      (pss_cons (ps_fld (pv 0) (pv 1) rfl) (pss_cons (ps_fld (pv 0) (pv 2) rfl)
      (pss_one (ps_fld (pv 0) (pe_tupRg rfl (by rfl) T.g_tuple (prg_1 (by rfl) T.g_range (pv 1))) rfl)))))), ?_⟩
    refine ⟨_, rfl, _, rfl, ⟨by omega, by omega⟩, _, rfl, _, rfl, ⟨by omega, by omega⟩, ?_⟩
    refine ⟨_, rfl, _, rfl, p, A.C, dx, _, rfl, hp, T.cT, T.nMany, (by show 0 < 1000; decide), ?_⟩
    refine ⟨_, rfl, _, rfl, p, A.C, dx, _, rfl, upd_same, T.cT, T.nArms, (by show 1 < 1000; decide), ?_⟩
    refine ⟨_, rfl, _, rfl, RgOk.of_le (by omega) (by omega) (by omega) (by omega), fun t ht => ?_⟩
    have npt : p ≠ t := fun z => by
      rw [z, upd_same] at ht
      cases ht
    refine ⟨_, rfl, p, A.C, dx, _, rfl, Eq.trans (upd_ne npt) upd_same, T.cT, T.nPl, (by simp only [putF, n1, if_false]; show 2 < 1000; decide), ?_⟩
    refine q _ (fun b o e hb => ?_) ⟨⟨dx, t, upd_same, ?_⟩, hn, hw⟩
    · have nbt : b ≠ t := ne_of_none (by rw [upd_ne hb, upd_ne hb]; exact e) ht
      rw [upd_ne hb, upd_ne nbt, upd_ne hb, upd_ne hb]
      exact e
    · rw [upd_ne npt.symm, upd_same, rg_pl]
theorem b_key (T : Tx K mg A) : L2.Binds K A.d_is_key ["thing"] [] := T.F_is_key.binds fun _ _ _ _ _ _ us hl => match us, hl with | [_], _ => rfl
/-- is_key of an int -/
def spKey : Sp := fun vs H Q _ => ∃ i : Int, vs = [.int i] ∧ Q (.bl (decide (-1000000000 ≤ i ∧ i ≤ 1000000000))) H
theorem ok_key (T : Tx K mg A) : FnOk P w K mg base CX0 3 A.f_is_key A.d_is_key ["thing"] spKey := by
  refine T.F_is_key.ok sc_is_key (fun vs H Q E h => ?_) (fun cdv B outer s H vs Q E hr h => ?_)
  · obtain ⟨i, rfl, _⟩ := h
    rfl
  · obtain ⟨i, rfl, q⟩ := h
    obtain ⟨t, hg⟩ := cst T.c_GREATEST_KEY
    refine ⟨_, pss_one (ps_ret (pe_call (ok_ii T) hr (by rfl) T.m_is_integer_from T.F_is_integer_from.kp (b_ii T) .nil pass0
      (pa_cons (pv 0) (pa_cons (pe_un un_neg (pe_glob (by rfl) hg (relI _ _))) (pa_cons (pe_glob (by rfl) hg (relI _ _)) pa_nil))))), ?_⟩
    exact ⟨_, rfl, _, rfl, _, _, _, rfl, .inl ⟨i, rfl, q⟩⟩
/-- keys go in, a tuple of them comes out -/
def spRow (K : PySem.W.Frag) : Sp := fun vs H Q _ => ∃ (a : Addr) (ns : List Int), vs = [.ref a] ∧ Sq H a (ns.map V.int) ∧ ns.length ≤ 12 ∧ (∀ n ∈ ns, -1000000000 ≤ n ∧ n ≤ 1000000000) ∧
  ∀ H' p, Same H H' → H' p = some (.tup (ns.map V.int)) → Q (.ref p) H'
theorem ok_row (T : Tx K mg A) : FnOk P w K mg base CX0 4 A.f_row_of A.d_row_of ["row"] (spRow K) := by
  refine T.F_row_of.ok sc_row_of (fun vs H Q E h => ?_) (fun cdv B outer s H vs Q E hr h => ?_)
  · obtain ⟨a, ns, rfl, _⟩ := h
    rfl
  · obtain ⟨a, ns, rfl, ha, hl, hk, q⟩ := h
    obtain ⟨t, hg⟩ := cst T.c_MOST_PLACES
    refine ⟨_, pss_cons (ps_if (PW.pt (pw_or (pt_not (pt_val (pe_callB call_isiT (by rfl) T.g_isinstance (by decide +kernel) (pa_cons (pv 0) (pa_cons (pe_tup (pa_cons (pe_bltn (v := .ty "list") (by rfl) T.g_list (by decide +kernel) rfl) (pa_cons (pe_bltn (v := .ty "tuple") (by rfl) T.g_tuple (by decide +kernel) rfl) pa_nil))) pa_nil)))))
        (pw_or1 (pt_cmpR op_gt (pe_callB call_len_seq (by rfl) T.g_len PySem.boot_len (pa_cons (pv 0) pa_nil)) (pe_glob (by rfl) hg (relI _ _)) (nomark _))))) (pss_one ps_never) pss_nil)
      (C8.pss_cut (ps_for PassesOwn.never rfl (pi_enS (by rfl) T.g_enumerate (pa_cons (pv 0) pa_nil)) (pg_tup rfl (pgs_cons (pg_name (i := 1) sc_row_of.nd rfl (Or.inl rfl)) (pgs_cons (pg_name (i := 2) sc_row_of.nd rfl (Or.inl rfl)) pgs_nil)))
        (pss_one (ps_if (pt_not (pt_val (pe_call (ok_key T) hr (by rfl) T.m_is_key T.F_is_key.kp (b_key T) .nil pass0 (pa_cons (pv 2) pa_nil)))) (pss_one ps_never) pss_nil)))
      (pss_one (ps_ret (pe_callTy call_tuple_of (by rfl) T.g_tuple (by decide +kernel) (pa_cons (pv 0) pa_nil))))), ?_⟩
    refine ⟨_, rfl, by show 2 ≤ sizeLine; decide, fun tp htp => ?_⟩
    have ha1 : Sq (upd H tp (.tup [.ty "list", .ty "tuple"])) a (ns.map V.int) := ha.same (Same.up htp)
    have isi : ∃ c b1, TyX K (upd H tp (.tup [.ty "list", .ty "tuple"])) (.ref a) (.type c) ∧ PySem.W.kitOne K (.type c) (.type "list") = some b1 ∧ (b1 = false → PySem.W.kitOne K (.type c) (.type "tuple") = some true) := by
      rcases ha1 with h | h
      · exact ⟨"list", true, .base (.lst h), kit_ty (by decide +kernel), fun z => by cases z⟩
      · exact ⟨"tuple", false, .base (.tup h), kit_ty (by decide +kernel), fun _ => kit_ty (by decide +kernel)⟩
    obtain ⟨c, b1, ty, k1, k2⟩ := isi
    refine ⟨_, tp, _, .type c, [.type "list", .type "tuple"], true, rfl, upd_same, .cons (.ty _) (.cons (.ty _) .nil), ty, kitAny_cons k1 (fun z => kitAny_cons (k2 z) (fun z => by cases z) (fun _ => rfl)) (fun _ => rfl), true, rfl, ?_⟩
    refine iteF ⟨_, rfl, a, _, rfl, ha1.len, _, _, rfl, rfl, _, rfl, ite2 (fun z => ?_) (fun _ => ?_)⟩
    · exfalso
      rw [List.length_map] at z
      have := of_decide_eq_true z
      omega
    refine ⟨fun σ H' => ∃ z y, σ = [some (.ref a), z, y] ∧ Same H H', ?_, ?_⟩
    · rcases ha with ha | ha
      · refine ⟨_, rfl, a, _, rfl, .inl ⟨SqL.of ((Same.up htp) _ _ ha), for_it (walk_enum (xs := ns.map V.int)) (fun i σ H' => ∃ z y, σ = [some (.ref a), z, y] ∧ Same H H') ⟨none, none, rfl, Same.up htp⟩ (fun i σ H' _ ⟨_, _, _, s⟩ => SqL.of (s _ _ ha)) ?_ ?_⟩⟩
        · rintro i v σ H2 H3 hi ⟨z, y, rfl, s⟩ ⟨T', x, x2, rfl, hT, rfl, e1, e2⟩
          obtain ⟨hi', rfl⟩ := ints_at e2
          cases e1
          refine ⟨_, _, rfl, SqT.of upd_same, rfl, _, _, rfl, _, _, rfl, rfl, ?_⟩
          refine ⟨_, rfl, _, rfl, _, rfl, ?_⟩
          rw [decide_eq_true (hk _ (List.getElem_mem hi'))]
          exact iteF ⟨_, _, rfl, s.trans (Same.up hT)⟩
        · rintro σ H2 ⟨z, y, rfl, s⟩
          exact ⟨_, _, rfl, s⟩
      · refine ⟨_, rfl, a, _, rfl, .inr ⟨SqT.of ((Same.up htp) _ _ ha), for_it (walk_enumT (xs := ns.map V.int)) (fun i σ H' => ∃ z y, σ = [some (.ref a), z, y] ∧ Same H H') ⟨none, none, rfl, Same.up htp⟩ (fun i σ H' _ ⟨_, _, _, s⟩ => SqT.of (s _ _ ha)) ?_ ?_⟩⟩
        · rintro i v σ H2 H3 hi ⟨z, y, rfl, s⟩ ⟨T', x, x2, rfl, hT, rfl, e1, e2⟩
          obtain ⟨hi', rfl⟩ := ints_at e2
          cases e1
          refine ⟨_, _, rfl, SqT.of upd_same, rfl, _, _, rfl, _, _, rfl, rfl, ?_⟩
          refine ⟨_, rfl, _, rfl, _, rfl, ?_⟩
          rw [decide_eq_true (hk _ (List.getElem_mem hi'))]
          exact iteF ⟨_, _, rfl, s.trans (Same.up hT)⟩
        · rintro σ H2 ⟨z, y, rfl, s⟩
          exact ⟨_, _, rfl, s⟩
    · rintro σ H2 ⟨z, y, rfl, s⟩
      rcases ha with ha | ha
      · exact ⟨_, rfl, a, _, rfl, .inl ⟨SqL.of (s _ _ ha), fun p hp => q _ _ (s.trans (Same.up hp)) upd_same⟩⟩
      · exact ⟨_, rfl, a, _, rfl, .inr ⟨SqT.of (s _ _ ha), q _ _ s (s _ _ ha)⟩⟩
theorem b_row (T : Tx K mg A) : L2.Binds K A.d_row_of ["row"] [] := T.F_row_of.binds fun _ _ _ _ _ _ us hl => match us, hl with | [_], _ => rfl
def spOf (K : PySem.W.Frag) (C : Addr) : Sp := fun vs H Q _ => ∃ (a w : Nat) (ns : List Int), vs = [.ref C, .ref a, .int w] ∧ (1 ≤ w ∧ w ≤ 4) ∧ Sq H a (ns.map V.int) ∧ ns.length ≤ 12 ∧ (∀ n ∈ ns, -1000000000 ≤ n ∧ n ≤ 1000000000) ∧
  ∀ (H' : Hp) p, Same H H' → H p = none → TreeAt C H' p ns.length w → Q (.ref p) H'
theorem ok_of (T : Tx K mg A) : FnOk P w K mg base CX0 6 A.f_t_of A.d_t_of ["cls", "row", "arms"] (spOf K A.C) := by
  obtain ⟨mv, kb⟩ := kb_init T
  refine T.F_t_of.ok sc_t_of (fun vs H Q E h => ?_) (fun cdv B outer s H vs Q E hr h => ?_)
  · obtain ⟨a, w, ns, rfl, _⟩ := h
    rfl
  · obtain ⟨a, w, ns, rfl, hw, ha, hl, hk, q⟩ := h
    refine ⟨_, PSs.nox (pss_cons (ps_expr (pe_call (ok_ca T) (hr.mono (by decide)) (by rfl) T.m_check_arms T.F_check_arms.kp (b_ca T) .nil pass0 (pa_cons (pv 2) pa_nil)))
      (pss_one (ps_ret (pe_makeLK (i := 0) T.mkC (ok_init T) hr kb pass0 (pa_cons (pe_callB call_len_seq (by rfl) T.g_len PySem.boot_len (pa_cons (pe_call (ok_row T) (hr.mono (by decide)) (by rfl) T.m_row_of T.F_row_of.kp (b_row T) .nil pass0 (pa_cons (pv 1) pa_nil)) pa_nil)) pa_nil)
        (pk_cons (pv 2) pk_nil) rfl (Or.inl rfl))))), ?_⟩
    refine ⟨_, rfl, _, rfl, ⟨by omega, by omega⟩, rfl, _, rfl, a, ns, rfl, ha, hl, hk, fun H1 p s1 hp => ?_⟩
    refine ⟨p, _, rfl, .inr (SqT.of hp), _, rfl, rfl, rfl, fun x dx nx ndx nex => ?_⟩
    refine ⟨x, dx, ns.length, w, by rw [List.length_map]; rfl, hl, hw, upd_same, fun H2 k2 t2 => ⟨rfl, q H2 x (fun b o e => k2 b o ?_ (ne_of_none (s1 _ _ e) nx)) (s1.free nx) t2⟩⟩
    rw [upd_ne (ne_of_none (s1 _ _ e) nx), upd_ne (ne_of_none (s1 _ _ e) ndx)]
    exact s1 _ _ e
theorem vi_len (l : List Nat) : (vi l).length = l.length := by unfold vi; rw [List.length_map]
theorem vi_app (a b : List Nat) : vi (a ++ b) = vi a ++ vi b := by unfold vi; rw [List.map_append]
theorem vi_ints (l : List Nat) : vi l = (l.map fun i => ((i : Nat) : Int)).map V.int := by unfold vi; rw [List.map_map]; rfl
theorem vi_wz (l : List Nat) : vi l = (wz l).map V.int := vi_ints l
theorem set_int (ks : List Int) (p : Nat) (v : Int) : (ks.map V.int).set p (V.int v) = (ks.set p v).map V.int := (List.map_set ..).symm
def spZi (C : Addr) : Sp := fun vs H Q _ => ∃ (p dx a b lk : Nat) (ks ws : List Int), vs = [.ref p, .ref a, .ref b, .int lk] ∧ H p = some (.ins C dx []) ∧ Sq H a (ks.map V.int) ∧ Sq H b (ws.map V.int) ∧ 
  ∀ (H' : Hp), (∀ b o, H b = some o → b ≠ p → H' b = some o) → SiftAt C H' p ks ws lk → Q .non H'
theorem ok_zi (T : Tx K mg A) : FnOk P w K mg base CX0 2 A.f_z___init__ A.d_z___init__ ["self", "row", "way", "looks"] (spZi A.CS) := by
  refine T.F_z___init__.ok sc_z___init__ (fun vs H Q E h => ?_) (fun cdv B outer s H vs Q E hr h => ?_)
  · obtain ⟨p, dx, a, b, lk, ks, ws, rfl, _⟩ := h
    rfl
  · obtain ⟨p, dx, a, b, lk, ks, ws, rfl, hp, ha, hb, q⟩ := h
    refine ⟨_, C8.pss_cut (ps_fld (pv 0) (pe_callTy call_tuple_of (by rfl) T.g_tuple (by decide +kernel) (pa_cons (pv 1) pa_nil)) rfl)
      (C8.pss_cut (ps_fld (pv 0) (pe_callTy call_tuple_of (by rfl) T.g_tuple (by decide +kernel) (pa_cons (pv 2) pa_nil)) rfl)
      (pss_one (ps_fld (pv 0) (pv 3) rfl))), ?_⟩
    have npa : p ≠ a := fun z => by rcases ha with h | h <;> rw [← z, hp] at h <;> cases h
    have npb : p ≠ b := fun z => by rcases hb with h | h <;> rw [← z, hp] at h <;> cases h
    refine ⟨fun σ H' => ∃ t1 : Addr, σ = L2.start ["self", "row", "way", "looks"] [.ref p, .ref a, .ref b, .int lk] ∧ (∀ c o, H c = some o → c ≠ p → H' c = some o) ∧ H' p = some (.ins A.CS dx (putF "row" (.ref t1) [])) ∧ H' t1 = some (.tup (ks.map V.int)) ∧ t1 ≠ p, ?_, ?_⟩
    · have go : ∀ (H1 : Hp) (t1 : Addr), Same H H1 → H1 t1 = some (.tup (ks.map V.int)) → ∃ t2 : Addr, (L2.start ["self", "row", "way", "looks"] [.ref p, .ref a, .ref b, .int lk]) = L2.start ["self", "row", "way", "looks"] [.ref p, .ref a, .ref b, .int lk] ∧ (∀ c o, H c = some o → c ≠ p → upd H1 p (.ins A.CS dx (putF "row" (.ref t1) [])) c = some o) ∧ upd H1 p (.ins A.CS dx (putF "row" (.ref t1) [])) p = some (.ins A.CS dx (putF "row" (.ref t2) [])) ∧ upd H1 p (.ins A.CS dx (putF "row" (.ref t1) [])) t2 = some (.tup (ks.map V.int)) ∧ t2 ≠ p := fun H1 t1 s1 e1 => by
        have n1 : t1 ≠ p := fun z => by rw [z, s1 _ _ hp] at e1; cases e1
        exact ⟨t1, rfl, fun c o e n => by rw [upd_ne n]; exact s1 _ _ e, upd_same, by rw [upd_ne n1]; exact e1, n1⟩
      rcases ha with h | h
      · exact ⟨_, rfl, a, _, rfl, .inl ⟨SqL.of h, fun t1 ht1 => ⟨_, rfl, p, A.CS, dx, _, rfl, (Same.up ht1) _ _ hp, T.cTS, T.nRow, (by show 0 < 1000; decide), go _ t1 (Same.up ht1) upd_same⟩⟩⟩
      · exact ⟨_, rfl, a, _, rfl, .inr ⟨SqT.of h, _, rfl, p, A.CS, dx, _, rfl, hp, T.cTS, T.nRow, (by show 0 < 1000; decide), go H a (Same.refl _) h⟩⟩
    rintro σ H1 ⟨t1, rfl, k1, hp1, e1, n1⟩
    have hb1 : Sq H1 b (ws.map V.int) := hb.elim (fun h => .inl (k1 _ _ h npb.symm)) fun h => .inr (k1 _ _ h npb.symm)
    refine ⟨fun σ H' => ∃ t2 : Addr, σ = L2.start ["self", "row", "way", "looks"] [.ref p, .ref a, .ref b, .int lk] ∧ (∀ c o, H1 c = some o → c ≠ p → H' c = some o) ∧ H' p = some (.ins A.CS dx (putF "way" (.ref t2) (putF "row" (.ref t1) []))) ∧ H' t2 = some (.tup (ws.map V.int)) ∧ t2 ≠ p, ?_, ?_⟩
    · have go : ∀ (H2 : Hp) (t2 : Addr), Same H1 H2 → H2 t2 = some (.tup (ws.map V.int)) → ∃ t3 : Addr, (L2.start ["self", "row", "way", "looks"] [.ref p, .ref a, .ref b, .int lk]) = L2.start ["self", "row", "way", "looks"] [.ref p, .ref a, .ref b, .int lk] ∧ (∀ c o, H1 c = some o → c ≠ p → upd H2 p (.ins A.CS dx (putF "way" (.ref t2) (putF "row" (.ref t1) []))) c = some o) ∧ upd H2 p (.ins A.CS dx (putF "way" (.ref t2) (putF "row" (.ref t1) []))) p = some (.ins A.CS dx (putF "way" (.ref t3) (putF "row" (.ref t1) []))) ∧ upd H2 p (.ins A.CS dx (putF "way" (.ref t2) (putF "row" (.ref t1) []))) t3 = some (.tup (ws.map V.int)) ∧ t3 ≠ p := fun H2 t2 s2 e2 => by
        have n2 : t2 ≠ p := fun z => by rw [z, s2 _ _ hp1] at e2; cases e2
        exact ⟨t2, rfl, fun c o e n => by rw [upd_ne n]; exact s2 _ _ e, upd_same, by rw [upd_ne n2]; exact e2, n2⟩
      rcases hb1 with h | h
      · exact ⟨_, rfl, b, _, rfl, .inl ⟨SqL.of h, fun t2 ht2 => ⟨_, rfl, p, A.CS, dx, _, rfl, (Same.up ht2) _ _ hp1, T.cTS, T.nWay, (by show 1 < 1000; decide), go _ t2 (Same.up ht2) upd_same⟩⟩⟩
      · exact ⟨_, rfl, b, _, rfl, .inr ⟨SqT.of h, _, rfl, p, A.CS, dx, _, rfl, hp1, T.cTS, T.nWay, (by show 1 < 1000; decide), go H1 b (Same.refl _) h⟩⟩
    rintro σ H2 ⟨t2, rfl, k2, hp2, e2, n2⟩
    refine ⟨_, rfl, _, rfl, p, A.CS, dx, _, rfl, hp2, T.cTS, T.nLooks, (by simp only [putF, m1, if_false]; show 2 < 1000; decide), ?_⟩
    refine q _ (fun c o e hc => ?_) ⟨dx, t1, t2, upd_same, ?_, ?_⟩
    · rw [upd_ne hc]
      exact k2 _ _ (k1 _ _ e hc) hc
    · rw [upd_ne n1]
      exact k2 _ _ e1 n1
    · rw [upd_ne n2]
      exact e2
theorem b_zi (T : Tx K mg A) : L2.Binds K A.d_z___init__ ["self", "row", "way", "looks"] [] := T.F_z___init__.binds fun _ _ _ _ _ _ us hl => match us, hl with | [_, _, _, _], _ => rfl
theorem b_gi (T : Tx K mg A) : L2.Binds K A.d_t___getitem__ ["self", "place"] [] := T.F_t___getitem__.binds fun _ _ _ _ _ _ us hl => match us, hl with | [_, _], _ => rfl
def spCp : Sp := fun vs H Q _ => ∃ i n : Int, vs = [.int i, .int n] ∧ (0 ≤ i ∧ i < n) ∧ Q .non H
theorem ok_cp (T : Tx K mg A) : FnOk P w K mg base CX0 3 A.f_check_place A.d_check_place ["place", "many"] spCp := by
  refine T.F_check_place.ok sc_check_place (fun vs H Q E h => ?_) (fun cdv B outer s H vs Q E hr h => ?_)
  · obtain ⟨i, n, rfl, _⟩ := h
    rfl
  · obtain ⟨i, n, rfl, hi, q⟩ := h
    refine ⟨_, pss_one (ps_if (pt_not (pt_val (pe_call (ok_ii T) hr (by rfl) T.m_is_integer_from T.F_is_integer_from.kp (b_ii T) .nil pass0
      (pa_cons (pv 0) (pa_cons pe_int (pa_cons (pe_op op_sub (pv 1) pe_int) pa_nil)))))) (pss_one ps_never) pss_nil), ?_⟩
    refine ⟨_, rfl, _, rfl, _, _, rfl, rfl, _, _, _, rfl, .inl ⟨i, rfl, _, rfl, ?_⟩⟩
    rw [decide_eq_true (show 0 ≤ i ∧ i ≤ n - 1 by omega)]
    exact iteF q
theorem b_cp (T : Tx K mg A) : L2.Binds K A.d_check_place ["place", "many"] [] := T.F_check_place.binds fun _ _ _ _ _ _ us hl => match us, hl with | [_, _], _ => rfl
theorem tf_many (n w t : Nat) : (tf n w t).lookup ("many" : Str) = some (.int n) := by
  unfold tf
  rw [lookup_putF, if_neg n2, lookup_putF, if_neg n1, lookup_putF, if_pos rfl]
theorem tf_arms (n w t : Nat) : (tf n w t).lookup ("arms" : Str) = some (.int w) := by
  unfold tf
  rw [lookup_putF, if_neg n3, lookup_putF, if_pos rfl]
theorem tf_pl (n w t : Nat) : (tf n w t).lookup ("_places" : Str) = some (.ref t) := by
  unfold tf
  rw [lookup_putF, if_pos rfl]
theorem pl_len (n : Nat) : (pl n).length = n := by unfold pl; rw [List.length_map, List.length_range]
/-- the children of a place, as the program cuts them -/
def kids (n w i : Nat) : List V := cutV (pl n) (some ((i : Int) * (w : Int) + 1)) (some ((i : Int) * (w : Int) + 1 + (w : Int)))
def spGi (C : Addr) : Sp := fun vs H Q _ => ∃ (p n w i : Nat), vs = [.ref p, .int i] ∧ TreeAt C H p n w ∧ i < n ∧ ∀ H' q, Same H H' → H' q = some (.tup (kids n w i)) → Q (.ref q) H'
theorem ok_gi (T : Tx K mg A) : FnOk P w K mg base CX0 4 A.f_t___getitem__ A.d_t___getitem__ ["self", "place"] (spGi A.C) := by
  refine T.F_t___getitem__.ok sc_t___getitem__ (fun vs H Q E h => ?_) (fun cdv B outer s H vs Q E hr h => ?_)
  · obtain ⟨p, n, w, i, rfl, _⟩ := h
    rfl
  · obtain ⟨p, n, w, i, rfl, t, hi, q⟩ := h
    obtain ⟨dx, l, h1, h2⟩ := t.ob
    refine ⟨_, pss_cons (ps_expr (pe_call (ok_cp T) hr (by rfl) T.m_check_place T.F_check_place.kp (b_cp T) .nil pass0 (pa_cons (pv 1) (pa_cons (pe_fld (pv 0) rfl) pa_nil))))
      (pss_cons (ps_set (i := 2) sc_t___getitem__.nd rfl (Or.inl rfl) (pe_op op_add (pe_op op_mul (pv 1) (pe_fld (pv 0) rfl)) pe_int))
      (pss_one (ps_ret (pe_slice sl_tup (pe_fld (pv 0) rfl) (po_some (pv 2)) (po_some (pe_op op_add (pv 2) (pe_fld (pv 0) rfl))))))), ?_⟩
    refine ⟨_, rfl, _, rfl, p, A.C, dx, _, _, rfl, h1, T.cT, T.nMany, tf_many _ _ _, _, _, rfl, ⟨by omega, by omega⟩, ?_⟩
    refine ⟨_, rfl, _, rfl, p, A.C, dx, _, _, rfl, h1, T.cT, T.nArms, tf_arms _ _ _, _, _, rfl, rfl, .inl ⟨by have := t.hn; omega, by have := t.hn; omega⟩, _, _, rfl, rfl, ?_⟩
    refine ⟨_, rfl, p, A.C, dx, _, _, rfl, h1, T.cT, T.nPl, tf_pl _ _ _, ?_⟩
    refine ⟨_, rfl, _, rfl, _, rfl, _, rfl, p, A.C, dx, _, _, rfl, h1, T.cT, T.nArms, tf_arms _ _ _, _, _, rfl, rfl, _, rfl, ?_⟩
    refine ⟨l, pl n, rfl, SqT.of h2, fun z => ?_, fun r hr0 => q _ r (Same.up hr0) upd_same⟩
    have z1 := z.1
    rw [pl_len, show ((i : Int) * (w : Int) + 1) = ((i * w + 1 : Nat) : Int) by push_cast; rfl, HT.sIx_nat] at z1
    omega
def kidsN (n w i : Nat) : List Nat := ((List.range n).drop (min (i * w + 1) n)).take (min (i * w + 1 + w) n - min (i * w + 1) n)
theorem kids_same : ∀ n, n < 13 → ∀ w, w < 5 → ∀ i, i < n → 1 ≤ w → kidsN n w i = kidL n w i := by decide +kernel
theorem kids_eq (n w i : Nat) : kids n w i = vi (kidsN n w i) := by
  unfold kids cutV kidsN
  rw [pl_len, show ((i : Int) * (w : Int) + 1) = ((i * w + 1 : Nat) : Int) by push_cast; rfl, show (((i * w + 1 : Nat) : Int) + (w : Int)) = ((i * w + 1 + w : Nat) : Int) by push_cast; rfl, HT.sIx_nat, HT.sIx_nat]
  unfold vi pl
  rw [List.map_take, List.map_drop]
theorem kid_len : ∀ n, n < 13 → ∀ w, w < 5 → ∀ i, i < n → 1 ≤ w → (kidL n w i).length ≤ 4 := by decide +kernel
/-- least_child -/
def spLc (K : PySem.W.Frag) (A : Ad) : Sp := fun vs H Q _ => ∃ (l a : Addr) (ks ns : List Int), vs = [.ref l, .ref a] ∧ SqL K H l (ks.map V.int) ∧ SqT K H a (ns.map V.int) ∧ 0 < ns.length ∧ (∀ n ∈ ns, 0 ≤ n ∧ n < ks.length) ∧ LamX.Tabs (TT A) H ∧
  ∀ (m : Int) (H' : Hp), LamX.ExtN H H' → LamX.Tabs (TT A) H' → Cl.LeastAt ks ns m → Q (.int m) H'
theorem ok_lc (T : Tx K mg A) (TB : LamX.TabB base mg A.c_least_child A.P_least_child) : FnOk P w K mg base CX0 2 A.f_least_child A.d_least_child ["keys", "children"] (spLc K A) := by
  obtain ⟨oc, od, kV, doc, pm, an, ct, osl, ed, lk, hcd⟩ := T.L_least_child
  rw [ed] at lk ⊢
  refine fn_of lk hcd sc_least_child (fun vs H Q E h => ?_) (fun B outer s H vs Q E hr h => ?_)
  · obtain ⟨l, a, ks, ns, rfl, _⟩ := h
    rfl
  · obtain ⟨l, a, ks, ns, rfl, hl, ha, hne, hin, hT, q⟩ := h
    refine ⟨_, PSs.nox (pss_one (ps_ret (Cl.pe_minlam (T := TT A) (x := "place") (y := "keys") (j := 0) (by rfl) T.g_min (pv 1) hr.depth hr.hd TB rfl (List.mem_singleton.mpr rfl) (fun p hp _ => by rw [List.mem_singleton.mp hp]; rfl)
      ⟨rfl, rfl, rfl, by decide +kernel, by decide +kernel, by decide +kernel⟩ (show (defScope s_least_child).names.lookup ("keys" : Str) = some NameKind.cell by decide +kernel) (by decide +kernel) rfl rfl (fun _ _ _ _ _ _ => rfl)))), ?_⟩
    exact ⟨_, rfl, a, l, ns, ks, rfl, ha, rfl, hl, hne, hin, hT, fun m H2 e t lm => q m H2 e t lm⟩
theorem b_lc (T : Tx K mg A) : L2.Binds K A.d_least_child ["keys", "children"] [] := T.F_least_child.binds fun _ _ _ _ _ _ us hl => match us, hl with | [_, _], _ => rfl
theorem wz_get (l : List Nat) (i : Nat) : (wz l).getD i 0 = ((l.getD i 0 : Nat) : Int) := by
  unfold wz
  rw [List.getD_eq_getElem?_getD, List.getD_eq_getElem?_getD, List.getElem?_map]
  cases l[i]? <;> rfl
theorem least_wz {ks : List Int} {l : List Nat} {m : Int} (h : Cl.LeastAt ks (wz l) m) : m = ((leastC ks l : Nat) : Int) := by
  obtain ⟨j, fl, e⟩ := h
  rw [wz_get] at e
  have hl : (wz l).length = l.length := by unfold wz; rw [List.length_map]
  have ef : (fun i => ks.getD ((wz l).getD i 0).toNat 0) = fun i => keyAt ks (l.getD i 0) := by
    funext i
    rw [wz_get, Int.toNat_natCast]
    rfl
  rw [hl, ef] at fl
  rw [e, least_of fl]
def muW (σ : L2.St) (H : Hp) : Nat := match σ[6]? with
  | some (some (V.ref W)) => (match H W with | some (.lst xs) => 40 - xs.length | _ => 0)
  | _ => 0
theorem muW_at {σ : L2.St} {H : Hp} {W : Addr} {xs : List V} (h : σ[6]? = some (some (V.ref W))) (hw : H W = some (.lst xs)) : muW σ H = 40 - xs.length := by
  unfold muW
  rw [h]
  show (match H W with | some (.lst xs) => 40 - xs.length | _ => 0) = _
  rw [hw]
def resSift (C : Addr) (H : Hp) (q : Addr) (r : List Int × List Nat × Nat) : Prop := SiftAt C H q r.1 (wz r.2.1) r.2.2
def spDown (A : Ad) : Sp := fun vs H Q _ => ∃ (r p w : Nat) (ks : List Int), vs = [.ref r, .int p, .int w] ∧ (1 ≤ w ∧ w ≤ 4) ∧ RowIn H r ks ∧ p < ks.length ∧ Tabs (TT A) H ∧
  ∀ (H' : Hp) (q : Addr), ExtN H H' → Tabs (TT A) H' → resSift A.CS H' q (goDown ks.length w 20 ks p [p] 0) → Q (.ref q) H'
theorem ok_down (T : Tx K mg A) (TB : LamX.TabB base mg A.c_least_child A.P_least_child) : FnOk P w K mg base CX0 7 A.f_sift_down A.d_sift_down ["row", "place", "arms"] (spDown A) := by
  obtain ⟨mo, ko⟩ := kb_of T
  refine T.F_sift_down.ok sc_sift_down (fun vs H Q E h => ?_) (fun cdv B outer s H vs Q E hr h => ?_)
  · obtain ⟨r, p, w, ks, rfl, _⟩ := h
    rfl
  · obtain ⟨r, p, w, ks, rfl, hw, hrow, hp, hT, q⟩ := h
    have nd := sc_sift_down.nd
    refine ⟨_, PSs.nox (pss_cons (ps_set (i := 3) nd rfl (Or.inl rfl) (pe_cmethK (pe_glob (v := .ref A.C) (by rfl) T.mC (relR _)) T.cr T.cof (ok_of T) hr ko pass0 (pa_cons (pv 0) pa_nil) (pk_cons (pv 2) pk_nil)))
      (pss_cons (ps_set (i := 4) nd rfl (Or.inl rfl) (pe_gi T.D_t___getitem__ (ok_gi T) (hr.mono (by decide)) (b_gi T) pass0 (pv 3) (pv 1)))
      (pss_cons (ps_set (i := 5) nd rfl (Or.inl rfl) (pe_callTy call_list_of (by rfl) T.g_list (by decide +kernel) (pa_cons (pv 0) pa_nil)))
      (pss_cons (ps_set (i := 6) nd rfl (Or.inl rfl) (pe_lst (pa_cons (pv 1) pa_nil)))
      (pss_cons (ps_set (i := 7) nd rfl (Or.inl rfl) pe_int)
      (C8.pss_cut (ps_while PassesOwn.never (pt_truth (pv 4) (fun _ => rfl)) (pss_cons (ps_set (i := 8) nd rfl (Or.inl rfl) (pe_ix ix_list (pv 6) (pe_un un_neg pe_int) (fun _ _ => rfl)))
      (pss_cons (ps_aug (i := 7) nd rfl (Or.inl rfl) (pe_callB call_len_seq (by rfl) T.g_len PySem.boot_len (pa_cons (pv 4) pa_nil)) ip_add)
      (pss_cons (ps_set (i := 9) nd rfl (Or.inl rfl) (pe_call (ok_lc T TB) (hr.mono (by decide)) (by rfl) T.m_least_child T.F_least_child.kp (b_lc T) .nil pass0 (pa_cons (pv 5) (pa_cons (pv 4) pa_nil))))
      (pss_cons (ps_if (pt_cmpR op_le (pe_ix ix_list (pv 5) (pv 8) (fun _ _ => rfl)) (pe_ix ix_list (pv 5) (pv 9) (fun _ _ => rfl)) (nomark _)) (pss_one ps_break) pss_nil)
      (pss_cons (ps_asg (pe_tup (pa_cons (pe_ix ix_list (pv 5) (pv 9) (fun _ _ => rfl)) (pa_cons (pe_ix ix_list (pv 5) (pv 8) (fun _ _ => rfl)) pa_nil))) (pg_tup rfl (pgs_cons (pg_sub (pv 5) (pv 8) set_list) (pgs_cons (pg_sub (pv 5) (pv 9) set_list) pgs_nil))))
      (pss_cons (ps_expr (pe_bm PySem.F.plainAttrs_list PySem.F.slot_list_append PySem.F.type_list_append mt_append (pv 6) (pa_cons (pv 9) pa_nil)))
      (pss_one (ps_set (i := 4) nd rfl (Or.inl rfl) (pe_gi T.D_t___getitem__ (ok_gi T) (hr.mono (by decide)) (b_gi T) pass0 (pv 3) (pv 9)))))))))))
      (pss_one (ps_ret (pe_make T.mkCS (ok_zi T) (hr.mono (by decide)) (by rfl) T.mCS (b_zi T) .nil pass0 (pa_cons (pv 5) (pa_cons (pv 6) (pa_cons (pv 7) pa_nil)))))))))))), ?_⟩
    refine ⟨rfl, _, rfl, _, rfl, rfl, rfl, r, w, ks, rfl, hw, hrow.1, hrow.2.1, hrow.2.2, fun H1 tr s1 p0 t1 => ?_⟩
    obtain ⟨dx, l, h1, h2⟩ := t1.ob
    have hk12 := hrow.2.1
    refine ⟨_, rfl, _, rfl, tr, dx, _, rfl, h1, tr, ks.length, w, p, rfl, t1, hp, fun H2 ch s2 hch => ?_⟩
    rw [kids_eq, kids_same ks.length (by omega) w (by omega) p hp hw.1] at hch
    have s12 : Same H H2 := s1.trans s2
    refine ⟨_, rfl, r, _, rfl, (hrow.1.same s12).len, fun D nD => ?_⟩
    refine ⟨_, rfl, by show 1 ≤ sizeLine; decide, fun W nW => ?_⟩
    have nDW : D ≠ W := ne_of_none (upd_same (H := H2) (a := D)) nW
    have s24 : Same H2 (upd (upd H2 D (.lst (ks.map V.int))) W (.lst [V.int (p : Nat)])) := (Same.up nD).trans (Same.up nW)
    have two0 : TwoE (TT A) H2 D W (ks.map V.int) (vi ([] ++ [p])) (upd (upd H2 D (.lst (ks.map V.int))) W (.lst [V.int (p : Nat)])) :=
      ⟨extN_of s24, (hT.ext s12).ext s24, by rw [upd_ne nDW]; exact upd_same, upd_same, nD, (Same.up nD).free nW, nDW⟩
    have hch4 := s24 _ _ hch
    generalize upd (upd H2 D (.lst (ks.map V.int))) W (.lst [V.int (p : Nat)]) = H4 at two0 hch4
    have t2 := t1.same s2
    generalize en : ks.length = n at *
    refine ⟨fun σ' H' => ∃ (x4 x8 x9 : Option V), σ' = [some (.ref r), some (.int p), some (.int w), some (.ref tr), x4, some (.ref D), some (.ref W), some (.int ((goDown n w 20 ks p [p] 0).2.2 : Nat)), x8, x9] ∧ TwoE (TT A) H2 D W ((goDown n w 20 ks p [p] 0).1.map V.int) (vi (goDown n w 20 ks p [p] 0).2.1) H', ?_, ?_⟩
    · refine while_by (fun σ' H' => ∃ (f : Nat) (ks' : List Int) (cur : Nat) (way : List Nat) (lk : Nat) (x8 x9 : Option V) (ch : Addr), σ' = [some (.ref r), some (.int p), some (.int w), some (.ref tr), some (.ref ch), some (.ref D), some (.ref W), some (.int lk), x8, x9] ∧
        TwoE (TT A) H2 D W (ks'.map V.int) (vi (way ++ [cur])) H' ∧ H' ch = some (.tup (vi (kidL n w cur))) ∧ cur < n ∧ ks'.length = n ∧ way.length + f = 20 ∧ n - cur < f ∧ goDown n w 20 ks p [p] 0 = goDown n w f ks' cur (way ++ [cur]) lk) muW ?_ ?_ ?_
      · exact ⟨20, ks, p, [], 0, none, none, ch, rfl, two0, hch4, hp, en, rfl, by omega, rfl⟩
      · rintro σ' H' ⟨f, ks', cur, way, lk, x8, x9, ch', rfl, two, hch', hcur, hkl, hwf, hf, eg⟩
        refine ⟨_, rfl, !(vi (kidL n w cur)).isEmpty, .inr (.inl ⟨_, SqT.of hch', rfl⟩), ?_⟩
        obtain ⟨f, rfl⟩ : ∃ f', f = f' + 1 := ⟨f - 1, by omega⟩
        have hlast : atI (vi (way ++ [cur])) (-1) = some (V.int ((cur : Nat) : Int)) := by
          rw [vi_app]
          exact last_at
        have hmu0 : muW [some (.ref r), some (.int p), some (.int w), some (.ref tr), some (.ref ch'), some (.ref D), some (.ref W), some (.int lk), x8, x9] H' = 40 - (way.length + 1) := by
          rw [muW_at rfl two.w, vi_len, List.length_append]
          rfl
        by_cases hk0 : kidL n w cur = []
        · rw [hk0]
          refine iteF ?_
          rw [goDown_leaf hk0] at eg
          rw [eg]
          exact ⟨_, _, _, rfl, two⟩
        · have e0 : (!(vi (kidL n w cur)).isEmpty) = true := by
            cases e : kidL n w cur with
            | nil => exact absurd e hk0
            | cons a b => rfl
          rw [e0]
          refine iteT ?_
          have hmem := least_mem (ks := ks') hk0
          have hk4 := kid_len n (by omega) w (by omega) cur hcur hw.1
          obtain ⟨hb1, hb2⟩ := kid_in hw.1 hmem
          refine ⟨_, rfl, _, rfl, W, _, _, _, rfl, rfl, SqL.of two.w, hlast, ?_⟩
          refine ⟨_, rfl, _, rfl, ch', _, rfl, .inr (SqT.of hch'), _, _, rfl, rfl, ?_⟩
          refine ⟨_, rfl, _, rfl, D, ch', ks', wz (kidL n w cur), rfl, SqL.of two.d, by rw [← vi_wz]; exact SqT.of hch', ?_, ?_, two.t, fun m H5 e5 t5 hm => ?_⟩
          · unfold wz
            rw [List.length_map]
            exact List.length_pos_iff.mpr hk0
          · intro z hz
            unfold wz at hz
            obtain ⟨j, hj, rfl⟩ := List.mem_map.mp hz
            have := kid_in hw.1 hj
            omega
          have em := least_wz hm
          subst em
          generalize ebb : leastC ks' (kidL n w cur) = b at *
          have two5 := two.ext e5 t5
          have hch5 := e5 _ _ hch' (fun ps z => nomatch z)
          have hc1 : cur < ks'.length := by omega
          have hc2 : b < ks'.length := by omega
          rw [vi_len]
          refine ⟨_, rfl, _, rfl, D, _, _, _, rfl, rfl, SqL.of two5.d, key_at hc1, _, rfl, _, rfl, D, _, _, _, rfl, rfl, SqL.of two5.d, key_at hc2, _, _, rfl, rfl, _, rfl, ?_⟩
          by_cases hlt : keyAt ks' b < keyAt ks' cur
          · rw [decide_eq_false (show ¬ keyAt ks' cur ≤ keyAt ks' b by omega)]
            refine iteF ?_
            rw [goDown_go hk0 ebb hlt] at eg
            refine ⟨_, rfl, _, rfl, D, _, _, _, rfl, rfl, SqL.of two5.d, key_at hc2, _, rfl, _, rfl, D, _, _, _, rfl, rfl, SqL.of two5.d, key_at hc1, by show 2 ≤ sizeLine; decide, fun t ht => ?_⟩
            have two2 := two5.same (Same.up (o := .tup [V.int (keyAt ks' b), V.int (keyAt ks' cur)]) ht)
            have et : upd H5 t (.tup [V.int (keyAt ks' b), V.int (keyAt ks' cur)]) t = some (.tup [V.int (keyAt ks' b), V.int (keyAt ks' cur)]) := upd_same
            generalize upd H5 t (.tup [V.int (keyAt ks' b), V.int (keyAt ks' cur)]) = G at two2 et
            refine ⟨t, _, rfl, SqT.of et, rfl, _, _, rfl, _, rfl, _, rfl, D, _, _, cur, rfl, rfl, two2.d, ixN_nat (by rw [List.length_map]; exact hc1), ?_⟩
            rw [set_int]
            have two3 : TwoE (TT A) H2 D W ((ks'.set cur (keyAt ks' b)).map V.int) (vi (way ++ [cur])) (upd G D (.lst ((ks'.set cur (keyAt ks' b)).map V.int))) := two2.setD
            generalize upd G D (.lst ((ks'.set cur (keyAt ks' b)).map V.int)) = G2 at two3
            refine ⟨_, _, rfl, _, rfl, _, rfl, D, _, _, b, rfl, rfl, two3.d, ixN_nat (by rw [List.length_map, List.length_set]; exact hc2), ?_⟩
            rw [set_int, show (ks'.set cur (keyAt ks' b)).set b (keyAt ks' cur) = swp ks' cur b from rfl]
            have two4 : TwoE (TT A) H2 D W ((swp ks' cur b).map V.int) (vi (way ++ [cur])) (upd G2 D (.lst ((swp ks' cur b).map V.int))) := two3.setD
            generalize upd G2 D (.lst ((swp ks' cur b).map V.int)) = G3 at two4
            refine ⟨rfl, _, rfl, .inl ⟨rfl, _, SqL.of two4.w⟩, _, rfl, W, _, _, rfl, rfl, two4.w, small1000 (by rw [vi_len, List.length_append, List.length_singleton]; omega), ?_⟩
            have em : vi (way ++ [cur]) ++ [V.int (b : Nat)] = vi ((way ++ [cur]) ++ [b]) := by rw [vi_app (way ++ [cur])]; rfl
            rw [em]
            have two6 : TwoE (TT A) H2 D W ((swp ks' cur b).map V.int) (vi ((way ++ [cur]) ++ [b])) (upd G3 W (.lst (vi ((way ++ [cur]) ++ [b])))) := two4.setW
            generalize upd G3 W (.lst (vi ((way ++ [cur]) ++ [b]))) = G4 at two6
            have t6 := t2.ext two6.e
            obtain ⟨dx6, l6, h16, h26⟩ := t6.ob
            refine ⟨_, rfl, _, rfl, tr, dx6, _, rfl, h16, tr, n, w, b, rfl, t6, hb2, fun H7 ch7 s7 hch7 => ?_⟩
            rw [kids_eq, kids_same n (by omega) w (by omega) b hb2 hw.1] at hch7
            have two7 := two6.same s7
            refine ⟨⟨f, swp ks' cur b, b, way ++ [cur], _, _, _, ch7, rfl, two7, hch7, hb2, by rw [swp_len]; exact hkl, by rw [List.length_append, List.length_singleton]; omega, by omega, eg⟩, ?_⟩
            rw [hmu0]
            show muW [some (.ref r), some (.int p), some (.int w), some (.ref tr), some (.ref ch7), some (.ref D), some (.ref W), _, _, _] H7 < _
            rw [muW_at rfl two7.w, vi_len, List.length_append, List.length_append, List.length_singleton, List.length_singleton]
            omega
          · rw [decide_eq_true (show keyAt ks' cur ≤ keyAt ks' b by omega)]
            refine iteT ?_
            rw [goDown_stay hk0 (by rw [ebb]; exact hlt)] at eg
            rw [eg]
            exact ⟨_, _, _, rfl, two5⟩
      · rintro σ' H1 Q1 Q2 mono ⟨v, hv, k, tv, z⟩
        exact ⟨v, hv, k, tv, mono _ _ z⟩
    · rintro σ' H' ⟨x4, x8, x9, rfl, two⟩
      refine ⟨_, rfl, _, rfl, _, rfl, fun x dx2 nx ndx nex => ?_⟩
      have hD := (Same.up (o := .own x) ndx) _ _ two.d
      have hW := (Same.up (o := .own x) ndx) _ _ two.w
      have nx2 : upd H' dx2 (.own x) x = none := by rw [upd_ne nex.symm]; exact nx
      refine ⟨x, dx2, D, W, _, (goDown n w 20 ks p [p] 0).1, wz (goDown n w 20 ks p [p] 0).2.1, rfl, upd_same, .inl ((Same.up nx2) _ _ hD), .inl (by rw [← vi_wz]; exact (Same.up nx2) _ _ hW), fun H6 k6 st => ⟨rfl, q H6 x ?_ ?_ st⟩⟩
      · exact (extN_of s12).trans (two.e.trans (extN_of (new_same nx ndx k6)))
      · exact two.t.ext (new_same nx ndx k6)
end
end Tw

set_option Elab.async false
set_option linter.all false
set_option maxRecDepth 100000
set_option maxHeartbeats 2000000
namespace Tw
open PySem PySem.Spec PyProof.Rows L2
section
variable {P : Program} {w : World} {K : PySem.W.Frag} {mg : Str → Option Value} {base : Heap} {A : Ad}
open LamX (ExtN Tabs TabS)
theorem tf_no (n w t : Nat) {m : Str} (h1 : ¬ m = "many") (h2 : ¬ m = "arms") (h3 : ¬ m = "_places") : (tf n w t).lookup m = none := by
  unfold tf
  rw [lookup_putF, if_neg h3, lookup_putF, if_neg h2, lookup_putF, if_neg h1]
  rfl
def upF : Nat → Nat → Nat → List Nat
  | 0, _, p => [p]
  | k + 1, w, p => if p = 0 then [0] else p :: upF k w ((p - 1) / w)
def upL (w p : Nat) : List Nat := upF 13 w p
def wayL (w p : Nat) : List Nat := (upL w p).reverse
theorem b_way (T : Tx K mg A) : L2.Binds K A.d_t_way_to ["self", "place"] [] := T.F_t_way_to.binds fun _ _ _ _ _ _ us hl => match us, hl with | [_, _], _ => rfl
theorem up_len : ∀ w, w < 5 → ∀ p, p < 13 → 1 ≤ w → (upL w p).length ≤ 13 := by decide +kernel
theorem b_par (T : Tx K mg A) : L2.Binds K A.d_t_parent ["self", "place"] [] := T.F_t_parent.binds fun _ _ _ _ _ _ us hl => match us, hl with | [_, _], _ => rfl
/-- the parent as the program says it -/
def parV (w p : Nat) : V := if p = 0 then .non else .int ((p - 1) / w : Nat)
def spPar (C : Addr) : Sp := fun vs H Q _ => ∃ (p n w i : Nat), vs = [.ref p, .int i] ∧ TreeAt C H p n w ∧ i < n ∧ Q (parV w i) H
theorem ok_par (T : Tx K mg A) : FnOk P w K mg base CX0 4 A.f_t_parent A.d_t_parent ["self", "place"] (spPar A.C) := by
  refine T.F_t_parent.ok sc_t_parent (fun vs H Q E h => ?_) (fun cdv B outer s H vs Q E hr h => ?_)
  · obtain ⟨p, n, w, i, rfl, _⟩ := h
    rfl
  · obtain ⟨p, n, w, i, rfl, t, hi, q⟩ := h
    obtain ⟨dx, l, h1, h2⟩ := t.ob
    refine ⟨_, pss_cons (ps_expr (pe_call (ok_cp T) hr (by rfl) T.m_check_place T.F_check_place.kp (b_cp T) .nil pass0 (pa_cons (pv 1) (pa_cons (pe_fld (pv 0) rfl) pa_nil))))
      (pss_cons (ps_if (pt_cmpR op_eq (pv 1) pe_int (nomark _)) (pss_one (ps_ret pe_non)) pss_nil)
      (pss_one (ps_ret (pe_op op_fdivN (pe_op op_sub (pv 1) pe_int) (pe_fld (pv 0) rfl))))), ?_⟩
    refine ⟨_, rfl, _, rfl, p, A.C, dx, _, _, rfl, h1, T.cT, T.nMany, tf_many _ _ _, _, _, rfl, ⟨by omega, by omega⟩, ?_⟩
    refine ⟨_, rfl, rfl, _, rfl, ?_⟩
    by_cases h0 : i = 0
    · rw [decide_eq_true (show V.int (i : Nat) = V.int 0 by rw [h0]; rfl)]
      refine iteT ?_
      unfold parV at q
      rw [if_pos h0] at q
      exact q
    · rw [decide_eq_false (show ¬ V.int (i : Nat) = V.int 0 by intro z; injection z with z; omega)]
      refine iteF ?_
      refine ⟨_, rfl, _, _, rfl, rfl, _, rfl, p, A.C, dx, _, _, rfl, h1, T.cT, T.nArms, tf_arms _ _ _, _, _, rfl, rfl, ⟨by have := t.hw; omega, by have := t.hw; omega⟩, ?_⟩
      unfold parV at q
      rw [if_neg h0] at q
      have e : Int.fdiv ((i : Int) - 1) (w : Int) = ((i - 1) / w : Nat) := by
        rw [Int.fdiv_eq_ediv_of_nonneg _ (by omega), show ((i : Int) - 1) = ((i - 1 : Nat) : Int) by omega]
        rfl
      show Q (V.int (Int.fdiv ((i : Int) - 1) (w : Int))) H
      rw [e]
      exact q
theorem up_eq : ∀ w, w < 5 → ∀ p, p < 13 → 1 ≤ w → upL w p = if p = 0 then [0] else p :: upL w ((p - 1) / w) := by decide +kernel
theorem vi_rev (a : List Nat) : (vi a).reverse = vi a.reverse := by unfold vi; rw [List.map_reverse]
/-- a number that falls while a place goes up -/
def muV : Option (Option V) → Nat
  | some (some (V.int z)) => z.toNat + 1
  | _ => 0
def spWay (C : Addr) : Sp := fun vs H Q _ => ∃ (p n w i : Nat), vs = [.ref p, .int i] ∧ TreeAt C H p n w ∧ i < n ∧ ∀ H' q, Same H H' → H q = none → H' q = some (.tup (vi (wayL w i))) → Q (.ref q) H'
theorem ok_way (T : Tx K mg A) : FnOk P w K mg base CX0 5 A.f_t_way_to A.d_t_way_to ["self", "place"] (spWay A.C) := by
  refine T.F_t_way_to.ok sc_t_way_to (fun vs H Q E h => ?_) (fun cdv B outer s H vs Q E hr h => ?_)
  · obtain ⟨p, n, w, i, rfl, _⟩ := h
    rfl
  · obtain ⟨p, n, w, i, rfl, t, hi, q⟩ := h
    refine ⟨_, pss_cons (ps_set (i := 2) sc_t_way_to.nd rfl (Or.inl rfl) (pe_lst (pa_cons (pv 1) pa_nil)))
      (pss_cons (ps_set (i := 3) sc_t_way_to.nd rfl (Or.inl rfl) (pe_meth (pv 0) T.cT T.M_t_parent (ok_par T) hr (b_par T) .nil pass0 (pa_cons (pv 1) pa_nil)))
      (pss_cons (ps_while PassesOwn.never (pt_cmpR op_notN (pv 3) pe_non (nomark _))
        (pss_cons (ps_expr (pe_bm PySem.F.plainAttrs_list PySem.F.slot_list_append PySem.F.type_list_append mt_append (pv 2) (pa_cons (pv 3) pa_nil)))
        (pss_one (ps_set (i := 3) sc_t_way_to.nd rfl (Or.inl rfl) (pe_meth (pv 0) T.cT T.M_t_parent (ok_par T) hr (b_par T) .nil pass0 (pa_cons (pv 3) pa_nil))))))
      (pss_one (ps_ret (pe_callTy call_tuple_of (by rfl) T.g_tuple (by decide +kernel) (pa_cons (pe_revL (pv 2)) pa_nil)))))), ?_⟩
    obtain ⟨dx, l, h1, h2⟩ := t.ob
    have noP : (tf n w l).lookup ("parent" : Str) = none := tf_no _ _ _ (by decide +kernel) (by decide +kernel) (by decide +kernel)
    refine ⟨_, rfl, by show 1 ≤ sizeLine; decide, fun d hd => ?_⟩
    have s1 : Same H (upd H d (.lst [V.int (i : Nat)])) := Same.up hd
    refine ⟨_, rfl, p, dx, _, rfl, s1 _ _ h1, noP, _, rfl, p, n, w, i, rfl, t.same s1, hi, ?_⟩
    refine while_by (fun σ H' => ∃ (c : Nat) (acc : List Nat), σ = [some (.ref p), some (.int i), some (.ref d), some (parV w c)] ∧ c < n ∧ Acc H d (vi (acc ++ [c])) H' ∧ acc ++ upL w c = upL w i ∧ acc.length ≤ 12)
      (fun σ _ => muV σ[3]?) ⟨i, [], rfl, hi, ⟨s1, hd, upd_same⟩, rfl, Nat.zero_le _⟩ ?_ ?_
    · rintro σ H' ⟨c, acc, rfl, hc, ac, ea, hl⟩
      have hn := t.hn
      have hw := t.hw
      have eu := up_eq w (by omega) c (by omega) hw.1
      refine ⟨_, rfl, rfl, _, rfl, ?_⟩
      by_cases h0 : c = 0
      · have ev : parV w c = V.non := by unfold parV; rw [if_pos h0]
        rw [ev, decide_eq_true (rfl : V.non = V.non)]
        refine iteF ?_
        rw [if_pos h0] at eu
        refine ⟨_, rfl, d, _, rfl, SqL.of ac.a, fun r hr0 => ⟨r, _, rfl, .inl ⟨SqL.of upd_same, fun u hu => q _ u (ac.s.trans ((Same.up hr0).trans (Same.up hu))) (ac.s.free ((Same.up hr0).free hu)) ?_⟩⟩⟩
        unfold wayL
        rw [upd_same, vi_rev, ← ea, eu, h0]
      · have ev : parV w c = V.int ((c - 1) / w : Nat) := by unfold parV; rw [if_neg h0]
        rw [ev, decide_eq_false (show ¬ V.int ((c - 1) / w : Nat) = V.non from fun z => nomatch z)]
        refine iteT ?_
        rw [if_neg h0] at eu
        have hlt : (c - 1) / w < c := Nat.lt_of_le_of_lt (Nat.div_le_self _ _) (by omega)
        have hL : acc.length + 1 + (upL w ((c - 1) / w)).length = (upL w i).length := by
          rw [← ea, eu, List.length_append, List.length_cons]
          omega
        have hL2 := up_len w (by omega) i (by omega) hw.1
        have hL3 := up_eq w (by omega) ((c - 1) / w) (by omega) hw.1
        have hL4 : 1 ≤ (upL w ((c - 1) / w)).length := by
          rw [hL3]
          split
          · exact Nat.le_refl _
          · rw [List.length_cons]; omega
        refine ⟨_, rfl, .inl ⟨rfl, _, SqL.of ac.a⟩, _, rfl, d, _, _, rfl, rfl, ac.a, small1000 (by rw [vi_len, List.length_append, List.length_singleton]; omega), ?_⟩
        have e2 : vi (acc ++ [c]) ++ [V.int ((c - 1) / w : Nat)] = vi (acc ++ [c] ++ [(c - 1) / w]) := by rw [vi_app (acc ++ [c])]; rfl
        rw [e2]
        have ac2 : Acc H d (vi (acc ++ [c] ++ [(c - 1) / w])) (upd H' d (.lst (vi (acc ++ [c] ++ [(c - 1) / w])))) := ac.push
        refine ⟨_, rfl, p, dx, _, rfl, ac2.s _ _ h1, noP, _, rfl, p, n, w, (c - 1) / w, rfl, t.same ac2.s, by omega, ?_⟩
        refine ⟨⟨(c - 1) / w, acc ++ [c], rfl, by omega, ac2, ?_, by rw [List.length_append, List.length_singleton]; omega⟩, ?_⟩
        · rw [← ea, eu, List.append_assoc]
          rfl
        · show muV (some (some (parV w ((c - 1) / w)))) < muV (some (some (V.int ((c - 1) / w : Nat))))
          unfold parV
          split
          · show 0 < _
            exact Nat.succ_pos _
          · rename_i h9
            show (((((c - 1) / w - 1) / w : Nat) : Int)).toNat + 1 < ((((c - 1) / w : Nat) : Int)).toNat + 1
            rw [Int.toNat_natCast, Int.toNat_natCast]
            exact Nat.succ_lt_succ (Nat.lt_of_le_of_lt (Nat.div_le_self _ _) (Nat.sub_lt (Nat.pos_of_ne_zero h9) Nat.one_pos))
    · rintro σ' H1 Q1 Q2 mono ⟨v, hv, e1, b1, e2, z⟩
      exact ⟨v, hv, e1, b1, e2, mono _ _ z⟩
theorem up_chain : ∀ w, w < 5 → ∀ p, p < 13 → 1 ≤ w → ∀ i, i < (upL w p).length - 1 → (upL w p).getD i 0 ≠ 0 ∧ ((upL w p).getD i 0 - 1) / w = (upL w p).getD (i + 1) 0 := by decide +kernel
theorem up_ends : ∀ w, w < 5 → ∀ p, p < 13 → 1 ≤ w → (upL w p).getD ((upL w p).length - 1) 0 = 0 ∧ 1 ≤ (upL w p).length ∧ (upL w p).getD 0 0 = p ∧ ∀ i, i < (upL w p).length → (upL w p).getD i 0 ≤ p := by decide +kernel
theorem Two.setD {H H' : Hp} {D W : Addr} {xs ys zs : List V} (h : Two H D W xs ys H') : Two H D W zs ys (upd H' D (.lst zs)) :=
  ⟨fun b o e => by rw [upd_ne (ne_of_none e h.nD)]; exact h.s _ _ e, upd_same, by rw [upd_ne h.ne.symm]; exact h.w, h.nD, h.nW, h.ne⟩
theorem Two.setW {H H' : Hp} {D W : Addr} {xs ys zs : List V} (h : Two H D W xs ys H') : Two H D W xs zs (upd H' W (.lst zs)) :=
  ⟨fun b o e => by rw [upd_ne (ne_of_none e h.nW)]; exact h.s _ _ e, by rw [upd_ne h.ne]; exact h.d, upd_same, h.nD, h.nW, h.ne⟩
theorem cut_last (xs : List V) (h : xs ≠ []) : cutV xs none (some (-1)) = xs.take (xs.length - 1) ∧ ¬ (HT.sIx xs.length 0 none = 0 ∧ HT.sIx xs.length xs.length (some (-1)) = xs.length) := by
  have hl := List.length_pos_iff.mpr h
  have e : HT.sIx xs.length xs.length (some (-1)) = xs.length - 1 := by
    unfold HT.sIx
    simp
    try omega
  have e0 : HT.sIx xs.length 0 none = 0 := rfl
  refine ⟨?_, fun z => ?_⟩
  · unfold cutV
    rw [e, e0]
    simp
  · rw [e] at z
    omega
theorem rev_at {U : List Nat} {i : Nat} (h : i + 1 < U.length) : ((U.reverse).take (U.length - 1))[(U.length - 1) - 1 - i]? = some (U.getD (i + 1) 0) := by
  rw [List.getElem?_take_of_lt (by omega), List.getElem?_reverse (by omega), List.getD_eq_getElem?_getD, show U.length - 1 - (U.length - 1 - 1 - i) = i + 1 by omega, List.getElem?_eq_getElem h]
  rfl
def spUp (C : Addr) : Sp := fun vs H Q _ => ∃ (r p w : Nat) (ks : List Int), vs = [.ref r, .int p, .int w] ∧ (1 ≤ w ∧ w ≤ 4) ∧ RowIn H r ks ∧ p < ks.length ∧
  ∀ (H' : Hp) (q : Addr), Same H H' → resSift C H' q (goUp w 20 ks p [p] 0) → Q (.ref q) H'
theorem ok_up (T : Tx K mg A) : FnOk P w K mg base CX0 7 A.f_sift_up A.d_sift_up ["row", "place", "arms"] (spUp A.CS) := by
  obtain ⟨mo, ko⟩ := kb_of T
  refine T.F_sift_up.ok sc_sift_up (fun vs H Q E h => ?_) (fun cdv B outer s H vs Q E hr h => ?_)
  · obtain ⟨r, p, w, ks, rfl, _⟩ := h
    rfl
  · obtain ⟨r, p, w, ks, rfl, hw, hrow, hp, q⟩ := h
    have nd := sc_sift_up.nd
    refine ⟨_, PSs.nox (pss_cons (ps_set (i := 3) nd rfl (Or.inl rfl) (pe_cmethK (pe_glob (v := .ref A.C) (by rfl) T.mC (relR _)) T.cr T.cof (ok_of T) hr ko pass0 (pa_cons (pv 0) pa_nil) (pk_cons (pv 2) pk_nil)))
      (pss_cons (ps_set (i := 4) nd rfl (Or.inl rfl) (pe_slice sl_tup (pe_meth (pv 3) T.cT T.M_t_way_to (ok_way T) (hr.mono (by decide)) (b_way T) .nil pass0 (pa_cons (pv 1) pa_nil)) po_none (po_some (pe_un un_neg pe_int))))
      (pss_cons (ps_set (i := 5) nd rfl (Or.inl rfl) (pe_callTy call_list_of (by rfl) T.g_list (by decide +kernel) (pa_cons (pv 0) pa_nil)))
      (pss_cons (ps_set (i := 6) nd rfl (Or.inl rfl) (pe_lst (pa_cons (pv 1) pa_nil)))
      (pss_cons (ps_set (i := 7) nd rfl (Or.inl rfl) pe_int)
      (C8.pss_cut (ps_for PassesOwn.never rfl (pi_reversed (by rfl) T.g_reversed (pa_cons (pe_callTy call_list_of (by rfl) T.g_list (by decide +kernel) (pa_cons (pv 4) pa_nil)) pa_nil)) (pg_name (i := 8) nd rfl (Or.inl rfl)) (pss_cons (ps_set (i := 9) nd rfl (Or.inl rfl) (pe_ix ix_list (pv 6) (pe_un un_neg pe_int) (fun _ _ => rfl)))
      (pss_cons (ps_aug (i := 7) nd rfl (Or.inl rfl) pe_int ip_add)
      (pss_cons (ps_if (pt_cmpR op_ge (pe_ix ix_list (pv 5) (pv 9) (fun _ _ => rfl)) (pe_ix ix_list (pv 5) (pv 8) (fun _ _ => rfl)) (nomark _)) (pss_one ps_break) pss_nil)
      (pss_cons (ps_asg (pe_tup (pa_cons (pe_ix ix_list (pv 5) (pv 8) (fun _ _ => rfl)) (pa_cons (pe_ix ix_list (pv 5) (pv 9) (fun _ _ => rfl)) pa_nil))) (pg_tup rfl (pgs_cons (pg_sub (pv 5) (pv 9) set_list) (pgs_cons (pg_sub (pv 5) (pv 8) set_list) pgs_nil))))
      (pss_one (ps_expr (pe_bm PySem.F.plainAttrs_list PySem.F.slot_list_append PySem.F.type_list_append mt_append (pv 6) (pa_cons (pv 8) pa_nil)))))))))
      (pss_one (ps_ret (pe_make T.mkCS (ok_zi T) (hr.mono (by decide)) (by rfl) T.mCS (b_zi T) .nil pass0 (pa_cons (pv 5) (pa_cons (pv 6) (pa_cons (pv 7) pa_nil)))))))))))), ?_⟩
    refine ⟨rfl, _, rfl, _, rfl, rfl, rfl, r, w, ks, rfl, hw, hrow.1, hrow.2.1, hrow.2.2, fun H1 tr s1 p0 t1 => ?_⟩
    obtain ⟨dx, l, h1, h2⟩ := t1.ob
    have noW : (tf ks.length w l).lookup ("way_to" : Str) = none := tf_no _ _ _ (by decide +kernel) (by decide +kernel) (by decide +kernel)
    have hk12 := hrow.2.1
    obtain ⟨u0, u1, u2, u3⟩ := up_ends w (by omega) p (by omega) hw.1
    have uc := up_chain w (by omega) p (by omega) hw.1
    have ul := up_len w (by omega) p (by omega) hw.1
    refine ⟨_, rfl, tr, dx, _, rfl, h1, noW, _, rfl, tr, ks.length, w, p, rfl, t1, hp, fun H2 t0 s2 n2 e2 => ?_⟩
    have ew : wayL w p = (upL w p).reverse := rfl
    have wl : (vi (wayL w p)).length = (upL w p).length := by rw [vi_len, ew, List.length_reverse]
    obtain ⟨c1, c2⟩ := cut_last (vi (wayL w p)) (List.length_pos_iff.mp (by rw [wl]; omega))
    refine ⟨_, rfl, _, rfl, t0, _, rfl, SqT.of e2, c2, fun ab nab => ?_⟩
    rw [c1, wl]
    have s3 : Same H2 (upd H2 ab (.tup ((vi (wayL w p)).take ((upL w p).length - 1)))) := Same.up nab
    have e3 : upd H2 ab (.tup ((vi (wayL w p)).take ((upL w p).length - 1))) ab = some (.tup ((vi (wayL w p)).take ((upL w p).length - 1))) := upd_same
    generalize upd H2 ab (.tup ((vi (wayL w p)).take ((upL w p).length - 1))) = H3 at s3 e3
    have s13 : Same H H3 := s1.trans (s2.trans s3)
    refine ⟨_, rfl, r, _, rfl, (hrow.1.same s13).len, fun D nD => ?_⟩
    refine ⟨_, rfl, by show 1 ≤ sizeLine; decide, fun W nW => ?_⟩
    have nDW : D ≠ W := ne_of_none (upd_same (H := H3) (a := D)) nW
    have two0 : Two H3 D W (ks.map V.int) (vi [p]) (upd (upd H3 D (.lst (ks.map V.int))) W (.lst [V.int (p : Nat)])) :=
      ⟨(Same.up nD).trans (Same.up nW), by rw [upd_ne nDW]; exact upd_same, upd_same, nD, (Same.up nD).free nW, nDW⟩
    generalize upd (upd H3 D (.lst (ks.map V.int))) W (.lst [V.int (p : Nat)]) = H4 at two0
    -- the loop
    refine ⟨fun σ' H' => ∃ (x8 x9 : Option V), σ' = [some (.ref r), some (.int p), some (.int w), some (.ref tr), some (.ref ab), some (.ref D), some (.ref W), some (.int ((goUp w 20 ks p [p] 0).2.2 : Nat)), x8, x9] ∧ Two H3 D W ((goUp w 20 ks p [p] 0).1.map V.int) (vi (goUp w 20 ks p [p] 0).2.1) H', ?_, ?_⟩
    · refine ⟨_, rfl, ab, _, rfl, .inr (SqT.of (two0.s _ _ e3)), fun c nc => ?_⟩
      have two1 := two0.same (Same.up (o := .lst ((vi (wayL w p)).take ((upL w p).length - 1))) nc)
      have ec : upd H4 c (.lst ((vi (wayL w p)).take ((upL w p).length - 1))) c = some (.lst ((vi (wayL w p)).take ((upL w p).length - 1))) := upd_same
      have nDc : D ≠ c := ne_of_none two0.d nc
      have nWc : W ≠ c := ne_of_none two0.w nc
      generalize upd H4 c (.lst ((vi (wayL w p)).take ((upL w p).length - 1))) = H5 at two1 ec
      have zl : ((vi (wayL w p)).take ((upL w p).length - 1)).length = (upL w p).length - 1 := by rw [List.length_take, wl]; omega
      refine ⟨c, _, rfl, SqL.of ec, RT.for_Itv (fun i σ' H' => ∃ (ks' : List Int) (way : List Nat) (lk : Nat) (x8 x9 : Option V), σ' = [some (.ref r), some (.int p), some (.int w), some (.ref tr), some (.ref ab), some (.ref D), some (.ref W), some (.int lk), x8, x9] ∧ Two H3 D W (ks'.map V.int) (vi (way ++ [(upL w p).getD i 0])) H' ∧
        H' c = some (.lst ((vi (wayL w p)).take ((upL w p).length - 1))) ∧ i ≤ (upL w p).length - 1 ∧ ks'.length = ks.length ∧ way.length = i ∧ goUp w 20 ks p [p] 0 = goUp w (20 - i) ks' ((upL w p).getD i 0) (way ++ [(upL w p).getD i 0]) lk) ?_ ?_ ?_ ?_⟩
      · exact ⟨ks, [], 0, none, none, rfl, by rw [u2]; exact two1, ec, by omega, rfl, rfl, by rw [u2]; rfl⟩
      · rintro i σ' H' ⟨_, _, _, _, _, _, _, h, _⟩
        exact SqL.of h
      · rintro i x σ' H' hi hx ⟨ks', way, lk, x8, x9, rfl, two, hc, hi2, hkl, hwl, eg⟩
        rw [zl] at hi hx
        obtain ⟨n0, np⟩ := uc i hi
        have hx2 : x = V.int (((upL w p).getD (i + 1) 0 : Nat) : Int) := by
          have e := rev_at (U := upL w p) (i := i) (by omega)
          rw [← ew] at e
          unfold vi at hx
          rw [← List.map_take, List.getElem?_map, e] at hx
          exact (Option.some.inj hx).symm
        subst hx2
        have b1 := u3 i (by omega)
        have b2 := u3 (i + 1) (by omega)
        have hc1 : (upL w p).getD i 0 < ks'.length := by omega
        have hc2 : (upL w p).getD (i + 1) 0 < ks'.length := by omega
        have hlast : atI (vi (way ++ [(upL w p).getD i 0])) (-1) = some (V.int (((upL w p).getD i 0 : Nat) : Int)) := by
          rw [vi_app]
          exact last_at
        have hlen14 : (way ++ [(upL w p).getD i 0]).length ≤ 900 := by rw [List.length_append, List.length_singleton]; omega
        have ef : 20 - i = (20 - (i + 1)) + 1 := by omega
        generalize (upL w p).getD i 0 = cur at *
        generalize (upL w p).getD (i + 1) 0 = nx at *
        rw [ef] at eg
        refine ⟨_, rfl, _, rfl, W, _, _, _, rfl, rfl, SqL.of two.w, hlast, ?_⟩
        refine ⟨_, rfl, _, _, rfl, rfl, ?_⟩
        refine ⟨_, rfl, _, rfl, D, _, _, _, rfl, rfl, SqL.of two.d, key_at hc1, _, rfl, _, rfl, D, _, _, _, rfl, rfl, SqL.of two.d, key_at hc2, _, _, rfl, rfl, _, rfl, ?_⟩
        by_cases hlt : keyAt ks' cur < keyAt ks' nx
        · rw [decide_eq_false (show ¬ keyAt ks' cur ≥ keyAt ks' nx by omega)]
          refine iteF ?_
          rw [goUp_go n0 (by rw [np]; exact hlt), np] at eg
          refine ⟨_, rfl, _, rfl, D, _, _, _, rfl, rfl, SqL.of two.d, key_at hc2, _, rfl, _, rfl, D, _, _, _, rfl, rfl, SqL.of two.d, key_at hc1, by show 2 ≤ sizeLine; decide, fun t ht => ?_⟩
          have ntc : c ≠ t := ne_of_none hc ht
          have two2 := two.same (Same.up (o := .tup [V.int (keyAt ks' nx), V.int (keyAt ks' cur)]) ht)
          have hc3 := (Same.up (o := .tup [V.int (keyAt ks' nx), V.int (keyAt ks' cur)]) ht) _ _ hc
          have et : upd H' t (.tup [V.int (keyAt ks' nx), V.int (keyAt ks' cur)]) t = some (.tup [V.int (keyAt ks' nx), V.int (keyAt ks' cur)]) := upd_same
          generalize upd H' t (.tup [V.int (keyAt ks' nx), V.int (keyAt ks' cur)]) = G at two2 hc3 et
          refine ⟨t, _, rfl, SqT.of et, rfl, _, _, rfl, _, rfl, _, rfl, D, _, _, cur, rfl, rfl, two2.d, ixN_nat (by rw [List.length_map]; exact hc1), ?_⟩
          rw [set_int]
          have two3 : Two H3 D W ((ks'.set cur (keyAt ks' nx)).map V.int) (vi (way ++ [cur])) (upd G D (.lst ((ks'.set cur (keyAt ks' nx)).map V.int))) := two2.setD
          have hc4 : upd G D (.lst ((ks'.set cur (keyAt ks' nx)).map V.int)) c = some (.lst ((vi (wayL w p)).take ((upL w p).length - 1))) := by rw [upd_ne nDc.symm]; exact hc3
          generalize upd G D (.lst ((ks'.set cur (keyAt ks' nx)).map V.int)) = G2 at two3 hc4
          refine ⟨_, _, rfl, _, rfl, _, rfl, D, _, _, nx, rfl, rfl, two3.d, ixN_nat (by rw [List.length_map, List.length_set]; exact hc2), ?_⟩
          rw [set_int, show (ks'.set cur (keyAt ks' nx)).set nx (keyAt ks' cur) = swp ks' cur nx from rfl]
          have two4 : Two H3 D W ((swp ks' cur nx).map V.int) (vi (way ++ [cur])) (upd G2 D (.lst ((swp ks' cur nx).map V.int))) := two3.setD
          have hc5 : upd G2 D (.lst ((swp ks' cur nx).map V.int)) c = some (.lst ((vi (wayL w p)).take ((upL w p).length - 1))) := by rw [upd_ne nDc.symm]; exact hc4
          generalize upd G2 D (.lst ((swp ks' cur nx).map V.int)) = G3 at two4 hc5
          refine ⟨rfl, _, rfl, .inl ⟨rfl, _, SqL.of two4.w⟩, _, rfl, W, _, _, rfl, rfl, two4.w, small1000 (by rw [vi_len]; omega), ?_⟩
          have em : vi (way ++ [cur]) ++ [V.int (nx : Nat)] = vi ((way ++ [cur]) ++ [nx]) := by rw [vi_app (way ++ [cur])]; rfl
          rw [em]
          refine ⟨swp ks' cur nx, way ++ [cur], lk + 1, _, _, rfl, two4.setW, by rw [upd_ne nWc.symm]; exact hc5, by omega, by rw [swp_len]; exact hkl, by rw [List.length_append, hwl]; rfl, eg⟩
        · rw [decide_eq_true (show keyAt ks' cur ≥ keyAt ks' nx by omega)]
          refine iteT ?_
          rw [goUp_stay n0 (by rw [np]; exact hlt)] at eg
          rw [eg]
          exact ⟨_, _, rfl, two⟩
      · rintro σ' H' ⟨ks', way, lk, x8, x9, rfl, two, hc, hi2, hkl, hwl, eg⟩
        rw [zl, u0, goUp_root] at eg
        rw [zl, u0] at two
        rw [eg]
        exact ⟨x8, x9, rfl, two⟩
    · rintro σ' H' ⟨x8, x9, rfl, two⟩
      refine ⟨_, rfl, _, rfl, _, rfl, fun x dx2 nx ndx nex => ?_⟩
      have hD := (Same.up (o := .own x) ndx) _ _ two.d
      have hW := (Same.up (o := .own x) ndx) _ _ two.w
      have nx2 : upd H' dx2 (.own x) x = none := by rw [upd_ne nex.symm]; exact nx
      refine ⟨x, dx2, D, W, _, (goUp w 20 ks p [p] 0).1, wz (goUp w 20 ks p [p] 0).2.1, rfl, upd_same, .inl ((Same.up nx2) _ _ hD), .inl (by rw [← vi_wz]; exact (Same.up nx2) _ _ hW), fun H6 k6 st => ⟨rfl, q H6 x ?_ st⟩⟩
      exact s13.trans (two.s.trans (new_same nx ndx k6))
theorem q2 : ¬ (("row" : Str) = "changes") := by decide +kernel
theorem q5 : ¬ (("changes" : Str) = "looks") := by decide +kernel
theorem zf_row (t1 t2 lk : Nat) : (zf t1 t2 lk).lookup ("row" : Str) = some (.ref t1) := by
  unfold zf
  rw [lookup_putF, if_neg m2, lookup_putF, if_neg m1, lookup_putF, if_pos rfl]
theorem zf_way (t1 t2 lk : Nat) : (zf t1 t2 lk).lookup ("way" : Str) = some (.ref t2) := by
  unfold zf
  rw [lookup_putF, if_neg m3, lookup_putF, if_pos rfl]
theorem mvG_take {α : Type} (d : α) : ∀ (l : List Nat) (xs : List α) (j : Nat), j + 1 < l.length → mvG d (l.take (j + 2)) xs = swG d (mvG d (l.take (j + 1)) xs) (l.getD j 0) (l.getD (j + 1) 0)
  | [], _, j, h => absurd h (by simp)
  | [_], _, j, h => absurd h (by simp)
  | a :: b :: l, xs, 0, h => rfl
  | a :: b :: l, xs, j + 1, h => by
    have ih := mvG_take d (b :: l) (swG d xs a b) j (by simpa using h)
    rw [show (a :: b :: l).take (j + 1 + 2) = a :: b :: l.take (j + 1) from rfl, show (a :: b :: l).take (j + 1 + 1) = a :: (b :: l).take (j + 1) from rfl, mvG]
    rw [show (b :: l).take (j + 2) = b :: l.take (j + 1) from rfl] at ih
    rw [ih]
    rfl
theorem wayJ_head (g : Bool) (w : Nat) (ks : List Int) (i : Nat) : ∃ l, wayJ g w ks i = i :: l := by
  unfold wayJ
  split
  · exact dnW_head _ _ _ _ _
  · exact upW_head _ _ _ _
theorem dnW_lt {n w : Nat} (hw : 1 ≤ w) : ∀ f ks p x, p < n → x ∈ dnW n w f ks p → x < n
  | 0, ks, p, x, hp, h => by
    rw [dnW, List.mem_singleton] at h
    omega
  | f + 1, ks, p, x, hp, h => by
    unfold dnW at h
    split at h
    · rw [List.mem_singleton] at h
      omega
    · rename_i h0
      split at h
      · rcases List.mem_cons.mp h with h | h
        · omega
        · exact dnW_lt hw f _ _ x (kid_in hw (least_mem (ks := ks) h0)).2 h
      · rw [List.mem_singleton] at h
        omega
theorem wayJ_lt {w : Nat} (hw : 1 ≤ w) {ks : List Int} {i : Nat} (hi : i < ks.length) (g : Bool) : ∀ x ∈ wayJ g w ks i, x < ks.length := fun x h => by
  unfold wayJ at h
  split at h
  · exact dnW_lt hw 20 _ _ x hi h
  · have := upW_le w 20 _ _ x h
    omega
theorem set_str (ns : List Str) (i : Nat) (z : Str) : (ns.map V.str).set i (.str z) = (ns.set i z).map V.str := List.map_set.symm
def spJset (A : Ad) (K : PySem.W.Frag) : Sp := fun vs H Q _ => ∃ (p w t u d b th un i : Nat) (g : Bool) (pz ps : List Pr) (es : List (Deed × List Pr)), vs = [.ref p, .ref th, .ref un, .int i, .bl g] ∧ QAt A.CJ H p w t u d b pz es ∧ (1 ≤ w ∧ w ≤ 4) ∧ RowIn H th (keys ps) ∧ SqT K H un ((names ps).map V.str) ∧ i < ps.length ∧ Tabs (TT A) H ∧
  ∀ (H' : Hp) (t' u' : Addr), ButP p H H' → Tabs (TT A) H' → QAt A.CJ H' p w t' u' d b (mvG d0 (wayJ g w (keys ps) i) ps) es → Q (.int (lastW (wayJ g w (keys ps) i) : Nat)) H'
theorem ok_jset (T : Tx K mg A) (TB : LamX.TabB base mg A.c_least_child A.P_least_child) : FnOk P w K mg base CX0 8 A.f_j__settle A.d_j__settle ["self", "heap", "names", "place", "is_greater"] (spJset A K) := by
  obtain ⟨mu, kup⟩ := kb_up T
  obtain ⟨md, kdn⟩ := kb_down T
  refine T.F_j__settle.ok sc_j__settle (fun vs H Q E h => ?_) (fun cdv B outer s H vs Q E hr h => ?_)
  · obtain ⟨p, w, t, u, d, b, th, un, i, g, pz, ps, es, rfl, _⟩ := h
    rfl
  · obtain ⟨p, w, t, u, d, b, th, un, i, g, pz, ps, es, rfl, hQ, hw, hrow, hun, hi, hT, q⟩ := h
    have nd := sc_j__settle.nd
    obtain ⟨⟨dx, m, h1⟩, h2, h3, ⟨ys, h4, h5⟩⟩ := id hQ
    have hl12 : ps.length ≤ 12 := by have := hrow.2.1; rw [keys_len] at this; exact this
    refine ⟨_, (C8.pss_cut (ps_if (pt_val (pv 4)) (pss_one (ps_set (i := 5) nd rfl (Or.inl rfl) (pe_callN (ok_down T TB) (hr.mono (by decide)) (by rfl) T.m_sift_down T.F_sift_down.kp kdn pass0 (pa_cons (pv 1) (pa_cons (pv 3) pa_nil)) (pk_cons (pe_fld (pv 0) rfl) pk_nil)))) (pss_one (ps_set (i := 5) nd rfl (Or.inl rfl) (pe_callN (ok_up T) (hr.mono (by decide)) (by rfl) T.m_sift_up T.F_sift_up.kp kup pass0 (pa_cons (pv 1) (pa_cons (pv 3) pa_nil)) (pk_cons (pe_fld (pv 0) rfl) pk_nil)))))
      (pss_cons (ps_set (i := 6) nd rfl (Or.inl rfl) (pe_callTy call_list_of (by rfl) T.g_list (by decide +kernel) (pa_cons (pv 2) pa_nil)))
      (C8.pss_cut (ps_for PassesOwn.never rfl (RZ.pi_zipA (by rfl) T.g_zip (pa_cons (pe_fld (pv 5) rfl) (pa_cons (pe_slice (r := rSlA K) sl_tupA (pe_fld (pv 5) rfl) (po_some pe_int) po_none) pa_nil))) (pg_tup rfl (pgs_cons (pg_name (i := 7) nd rfl (Or.inl rfl)) (pgs_cons (pg_name (i := 8) nd rfl (Or.inl rfl)) pgs_nil))) (pss_one (ps_asg (pe_tup (pa_cons (pe_ix (r := rIxL K) ix_list (pv 6) (pv 8) (fun _ _ => rfl)) (pa_cons (pe_ix (r := rIxL K) ix_list (pv 6) (pv 7) (fun _ _ => rfl)) pa_nil))) (pg_tup rfl (pgs_cons (pg_sub (pv 6) (pv 7) set_list) (pgs_cons (pg_sub (pv 6) (pv 8) set_list) pgs_nil))))))
      (pss_cons (ps_fld (pv 0) (pe_fld (pv 5) rfl) rfl)
      (pss_cons (ps_fld (pv 0) (pe_callTy (r := rTupF K) call_tupF (by rfl) T.g_tuple (by decide +kernel) (pa_cons (pv 6) pa_nil)) rfl)
      (pss_one (ps_ret (pe_ix (r := rIxT K) ix_tup (pe_fld (pv 5) rfl) (pe_un un_neg pe_int) (fun _ _ => rfl))))))))), ?_⟩
    generalize eW : wayJ g w (keys ps) i = W at q
    have hWlt : ∀ x ∈ W, x < ps.length := by rw [← eW, ← keys_len]; exact wayJ_lt hw.1 (by rw [keys_len]; exact hi) g
    obtain ⟨l, el⟩ : ∃ l, W = i :: l := by rw [← eW]; exact wayJ_head g w _ i
    refine ⟨fun σ' H' => ∃ (q5 : Addr) (lk : Nat), σ' = [some (.ref p), some (.ref th), some (.ref un), some (.int i), some (.bl g), some (.ref q5), none, none, none] ∧ ExtN H H' ∧ Tabs (TT A) H' ∧ SiftAt A.CS H' q5 (mvG 0 W (keys ps)) (wz W) lk, ?_, ?_⟩
    · refine ⟨_, rfl, g, rfl, ?_⟩
      have hi2 : i < (keys ps).length := by rw [keys_len]; exact hi
      cases g with
      | true =>
        refine iteT ⟨_, rfl, _, rfl, _, rfl, p, A.CJ, dx, _, _, rfl, h1, T.cTJ, T.jArms, fdJ_arms _ _ _ _ _ _, rfl, rfl, th, i, w, keys ps, rfl, hw, hrow, hi2, hT, fun H2 q2 e2 t2 rs => ?_⟩
        obtain ⟨g1, g2⟩ := goDown_dnW (keys ps).length w 20 (keys ps) i [] 0
        refine ⟨q2, (goDown (keys ps).length w 20 (keys ps) i [i] 0).2.2, rfl, e2, t2, ?_⟩
        rw [← eW]
        show SiftAt A.CS H2 q2 (mvG 0 (dnW (keys ps).length w 20 (keys ps) i) (keys ps)) (wz (dnW (keys ps).length w 20 (keys ps) i)) _
        rw [← g1, ← List.nil_append (dnW (keys ps).length w 20 (keys ps) i), ← g2]
        exact rs
      | false =>
        refine iteF ⟨_, rfl, _, rfl, _, rfl, p, A.CJ, dx, _, _, rfl, h1, T.cTJ, T.jArms, fdJ_arms _ _ _ _ _ _, rfl, rfl, th, i, w, keys ps, rfl, hw, hrow, hi2, fun H2 q2 s2 rs => ?_⟩
        obtain ⟨g1, g2⟩ := goUp_upW w 20 (keys ps) i [] 0
        refine ⟨q2, (goUp w 20 (keys ps) i [i] 0).2.2, rfl, extN_of s2, hT.ext s2, ?_⟩
        rw [← eW]
        show SiftAt A.CS H2 q2 (mvG 0 (upW w 20 (keys ps) i) (keys ps)) (wz (upW w 20 (keys ps) i)) _
        rw [← g1, ← List.nil_append (upW w 20 (keys ps) i), ← g2]
        exact rs
    rintro σ' H2 ⟨q5, lk, rfl, e2, t2, d5, u1, u2, f0, f1, f2⟩
    have hun2 : SqT K H2 un ((names ps).map V.str) := SqT.fz hun (Fz.ext e2)
    refine ⟨_, rfl, un, _, rfl, .inr hun2, fun D nD => ?_⟩
    have s3 := Same.up (o := .lst ((names ps).map V.str)) nD
    refine ⟨fun σ' H' => ∃ (x7 x8 : Option V), σ' = [some (.ref p), some (.ref th), some (.ref un), some (.int i), some (.bl g), some (.ref q5), some (.ref D), x7, x8] ∧ Acc H2 D ((mvG e0 W (names ps)).map V.str) H', ?_, ?_⟩
    · have ac0 : Acc H2 D ((mvG e0 (W.take 1) (names ps)).map V.str) (upd H2 D (.lst ((names ps).map V.str))) := by
        rw [el]
        exact ⟨s3, nD, upd_same⟩
      generalize upd H2 D (.lst ((names ps).map V.str)) = H3 at s3 ac0
      refine ⟨_, rfl, q5, A.CS, d5, _, _, rfl, s3 _ _ f0, T.cTS, T.nWay, zf_way _ _ _, _, rfl, q5, A.CS, d5, _, _, rfl, s3 _ _ f0, T.cTS, T.nWay, zf_way _ _ _, _, rfl, ?_⟩
      unfold tNoPart
      show rSlA K (V.ref u2) (some (1 : Int)) none _ _
      refine slA' (s3 _ _ f2) (fun H4 v s4 e4 => ?_)
      rw [show (1 : Int) = ((1 : Nat) : Int) from rfl, cutv_from] at e4
      have ac4 := ac0.same s4
      have f2' := s4 _ _ (s3 _ _ f2)
      have hWl : W.length = l.length + 1 := by rw [el]; rfl
      have hwl : ((wz W).map V.int).length = W.length := by rw [List.length_map]; exact List.length_map ..
      have hmin : l.length = min ((wz W).map V.int).length (((wz W).map V.int).drop 1).length := by rw [List.length_drop, hwl]; omega
      refine ⟨u2, v, _, _, rfl, .inr ⟨SqT.of f2', SqT.of e4, ?_⟩⟩
      refine for_it (walk_zipT (n := l.length) hmin) (fun j σ' H' => (∃ (x7 x8 : Option V), σ' = [some (.ref p), some (.ref th), some (.ref un), some (.int i), some (.bl g), some (.ref q5), some (.ref D), x7, x8]) ∧ Acc H2 D ((mvG e0 (W.take (j + 1)) (names ps)).map V.str) H' ∧ H' u2 = some (.tup ((wz W).map V.int)) ∧ H' v = some (.tup (((wz W).map V.int).drop 1)))
        ⟨⟨none, none, rfl⟩, ac4, f2', e4⟩ (fun j σ' H' _ h => ⟨SqT.of h.2.2.1, SqT.of h.2.2.2⟩) ?_ ?_
      · rintro j y σ' H5 H6 hj ⟨⟨x7, x8, rfl⟩, ac, g1, g2⟩ ⟨T', x, x2, rfl, hTn, rfl, k1, k2⟩
        have hj1 : j < W.length := by omega
        have hj2 : j + 1 < W.length := by omega
        have wat : ∀ i, i < W.length → ((wz W).map V.int)[i]? = some (.int (W.getD i 0 : Nat)) := fun i hi => by
          unfold wz
          rw [List.getElem?_map, List.getElem?_map, List.getElem?_eq_getElem hi, List.getD_eq_getElem?_getD, List.getElem?_eq_getElem hi]
          rfl
        have k1 : ((wz W).map V.int)[j]? = some x := k1
        have k2 : (((wz W).map V.int).drop 1)[j]? = some x2 := k2
        rw [wat j hj1] at k1
        rw [List.getElem?_drop, Nat.add_comm 1 j, wat (j + 1) hj2] at k2
        cases k1
        cases k2
        have s6 := Same.up (o := .tup [V.int (W.getD j 0 : Nat), V.int (W.getD (j + 1) 0 : Nat)]) hTn
        have ac6 := ac.same s6
        have g16 := s6 _ _ g1
        have g26 := s6 _ _ g2
        refine ⟨_, _, rfl, SqT.of upd_same, rfl, _, _, rfl, _, _, rfl, rfl, ?_⟩
        generalize upd H5 T' (.tup [V.int (W.getD j 0 : Nat), V.int (W.getD (j + 1) 0 : Nat)]) = H7 at ac6 g16 g26
        have ha : W.getD j 0 < ps.length := hWlt _ (by rw [getD_at 0 hj1]; exact List.getElem_mem hj1)
        have hb : W.getD (j + 1) 0 < ps.length := hWlt _ (by rw [getD_at 0 hj2]; exact List.getElem_mem hj2)
        have hN : (mvG e0 (W.take (j + 1)) (names ps)).length = ps.length := by rw [mvG_len, names_len]
        rw [mvG_take e0 W _ j hj2]
        generalize mvG e0 (W.take (j + 1)) (names ps) = N at ac6 hN ⊢
        generalize W.getD j 0 = x1 at ha ⊢
        generalize W.getD (j + 1) 0 = x2 at hb ⊢
        refine ⟨_, rfl, _, rfl, D, _, _, _, rfl, rfl, SqL.of ac6.a, atV_nat V.str e0 (by omega), _, rfl, _, rfl, D, _, _, _, rfl, rfl, SqL.of ac6.a, atV_nat V.str e0 (by omega), by show 2 ≤ sizeLine; decide, fun t8 ht8 => ?_⟩
        have s8 := Same.up (o := .tup [V.str (N.getD x2 e0), V.str (N.getD x1 e0)]) ht8
        have ac8 := ac6.same s8
        have g18 := s8 _ _ g16
        have g28 := s8 _ _ g26
        have et8 : upd H7 t8 (.tup [V.str (N.getD x2 e0), V.str (N.getD x1 e0)]) t8 = some (.tup [V.str (N.getD x2 e0), V.str (N.getD x1 e0)]) := upd_same
        generalize upd H7 t8 (.tup [V.str (N.getD x2 e0), V.str (N.getD x1 e0)]) = H8 at ac8 g18 g28 et8
        refine ⟨t8, _, rfl, SqT.of et8, rfl, _, _, rfl, _, rfl, _, rfl, D, _, _, x1, rfl, rfl, ac8.a, ixN_nat (by rw [List.length_map]; omega), ?_⟩
        rw [set_str]
        have ac9 : Acc H2 D ((N.set x1 (N.getD x2 e0)).map V.str) (upd H8 D (.lst ((N.set x1 (N.getD x2 e0)).map V.str))) := ac8.push
        have g19 : upd H8 D (.lst ((N.set x1 (N.getD x2 e0)).map V.str)) u2 = _ := (upd_ne (ne_of g18 ac8.a (by intro z; cases z))).trans g18
        have g29 : upd H8 D (.lst ((N.set x1 (N.getD x2 e0)).map V.str)) v = _ := (upd_ne (ne_of g28 ac8.a (by intro z; cases z))).trans g28
        generalize upd H8 D (.lst ((N.set x1 (N.getD x2 e0)).map V.str)) = H9 at ac9 g19 g29
        refine ⟨_, _, rfl, _, rfl, _, rfl, D, _, _, x2, rfl, rfl, ac9.a, ixN_nat (by rw [List.length_map, List.length_set]; omega), ?_⟩
        rw [set_str]
        exact ⟨rfl, ⟨_, _, rfl⟩, ac9.push, (upd_ne (ne_of g19 ac9.a (by intro z; cases z))).trans g19, (upd_ne (ne_of g29 ac9.a (by intro z; cases z))).trans g29⟩
      · rintro σ' H5 ⟨⟨x7, x8, rfl⟩, ac, _, _⟩
        rw [List.take_of_length_le (by omega)] at ac
        exact ⟨x7, x8, rfl, ac⟩
    rintro σ' H3 ⟨x7, x8, rfl, ac⟩
    have b3 : ButP p H H3 := ButP.of (e2.trans (extN_of ac.s))
    have t3 := t2.ext ac.s
    have k1 := b3
    have f0' := ac.s _ _ f0
    have f1' := ac.s _ _ f1
    have f2' := ac.s _ _ f2
    have h1' := ac.s _ _ (e2 _ _ h1 (fun _ z => nomatch z))
    have h4' := ac.s _ _ (e2 _ _ h4 (fun _ z => nomatch z))
    have hZ : Fz H H3 := Fz.ext (e2.trans (extN_of ac.s))
    refine ⟨_, rfl, q5, A.CS, d5, _, _, rfl, f0', T.cTS, T.nRow, zf_row _ _ _, _, rfl, p, A.CJ, dx, _, rfl, h1', T.cTJ, T.jHeap, by show 6 < 1000; decide, ?_⟩
    rw [fdJ_setH]
    have hu : ∀ c o, H3 c = some o → (∀ C dx fs, o ≠ .ins C dx fs) → upd H3 p (.ins A.CJ dx (fdJ w u1 u d b m)) c = some o := fun c o h n => (upd_ne (fun z => by rw [z, h1'] at h; exact n _ _ _ (Option.some.inj h).symm)).trans h
    have f1u := hu _ _ f1' (fun _ _ _ z => nomatch z)
    have f2u := hu _ _ f2' (fun _ _ _ z => nomatch z)
    have h4u := hu _ _ h4' (fun _ _ _ z => nomatch z)
    have acu := hu _ _ ac.a (fun _ _ _ z => nomatch z)
    have hqp : q5 ≠ p := fun z => by
      rw [z, h1'] at f0'
      injection Option.some.inj f0' with z1 z2 z3
      exact absurd (congrArg List.length z3) (by show (6 : Nat) ≠ 3; decide)
    have f0u : upd H3 p (.ins A.CJ dx (fdJ w u1 u d b m)) q5 = _ := (upd_ne hqp).trans f0'
    have hpu : upd H3 p (.ins A.CJ dx (fdJ w u1 u d b m)) p = _ := upd_same
    have tu : Tabs (TT A) (upd H3 p (.ins A.CJ dx (fdJ w u1 u d b m))) := tabs_ins t3 h1'
    have bu := b3.trans (ButP.put (p := p) (H := H3) (.ins A.CJ dx (fdJ w u1 u d b m)))
    have hZu : EntsAt (upd H3 p (.ins A.CJ dx (fdJ w u1 u d b m))) ys es := (h5.fz hZ).fz fun c o h n1 n2 n3 => hu _ _ h n2
    generalize upd H3 p (.ins A.CJ dx (fdJ w u1 u d b m)) = H4 at f1u f2u h4u acu f0u hpu tu bu hZu
    refine ⟨_, rfl, D, _, rfl, .inl ⟨SqL.of acu, fun n oo nn hd => ?_⟩⟩
    have s5 := sameUp (o := .frz oo (.tup ((mvG e0 W (names ps)).map V.str))) nn
    have en : upd H4 n (.frz oo (.tup ((mvG e0 W (names ps)).map V.str))) n = _ := upd_same
    have f1n := s5 _ _ f1u
    have f2n := s5 _ _ f2u
    have f0n := s5 _ _ f0u
    have h4n := s5 _ _ h4u
    have hpn := s5 _ _ hpu
    have tn := tu.ext s5
    have bn := bu.trans (ButP.of (extN_of s5))
    have hZn := hZu.fz (Fz.same s5)
    generalize upd H4 n (.frz oo (.tup ((mvG e0 W (names ps)).map V.str))) = H5 at en f1n f2n f0n h4n hpn tn bn hZn
    refine ⟨_, rfl, p, A.CJ, dx, _, rfl, hpn, T.cTJ, T.jNames, by show 6 < 1000; decide, ?_⟩
    rw [fdJ_setN]
    have hv : ∀ c o, H5 c = some o → (∀ C dx fs, o ≠ .ins C dx fs) → upd H5 p (.ins A.CJ dx (fdJ w u1 n d b m)) c = some o := fun c o h nn => (upd_ne (fun z => by rw [z, hpn] at h; exact nn _ _ _ (Option.some.inj h).symm)).trans h
    refine ⟨_, rfl, q5, A.CS, d5, _, _, rfl, (upd_ne hqp).trans f0n, T.cTS, T.nWay, zf_way _ _ _, _, rfl, u2, _, _, V.int (lastW W : Nat), rfl, rfl, SqT.of (hv _ _ f2n (fun _ _ _ z => nomatch z)), ?_, ?_⟩
    · have e := atV_last (fun i : Nat => V.int (i : Int)) 0 (xs := W) (by rw [el]; exact Nat.succ_le_succ (Nat.zero_le _))
      unfold wz
      rw [List.map_map]
      exact e
    refine q _ u1 n (bn.trans (ButP.put _)) (tabs_ins tn hpn) ⟨⟨dx, m, upd_same⟩, ?_, .inl ⟨oo, ?_, hd⟩, ⟨ys, hv _ _ h4n (fun _ _ _ z => nomatch z), hZn.fz fun c o h n1 n2 n3 => hv _ _ h n2⟩⟩
    · rw [hv _ _ f1n (fun _ _ _ z => nomatch z)]
      unfold keys
      rw [mvG_map (fun z : Pr => z.1) d0]
    · rw [hv _ _ en (fun _ _ _ z => nomatch z)]
      unfold names
      rw [mvG_map (fun z : Pr => z.2) d0]
      rfl
end
end Tw

set_option Elab.async false
set_option linter.all false
set_option maxRecDepth 100000
set_option maxHeartbeats 2000000
namespace Tw
open PySem PySem.Spec PyProof.Rows L2
section
variable {P : Program} {w : World} {K : PySem.W.Frag} {mg : Str → Option Value} {base : Heap} {A : Ad}
open LamX (ExtN Tabs TabS)
theorem b_jset (T : Tx K mg A) : L2.Binds K A.d_j__settle ["self", "heap", "names", "place", "is_greater"] [] := T.F_j__settle.binds fun _ _ _ _ _ _ us hl => match us, hl with | [_, _, _, _, _], _ => rfl
theorem all_bls : ∀ j : Nat, ((List.replicate j (V.bl true)) : List V) = (List.replicate j true).map V.bl := fun j => by rw [List.map_replicate]
def spIsn : Sp := fun vs H Q _ => ∃ n : Str, vs = [.str n] ∧ n ∈ wordsL ∧ ∀ H', Same H H' → Q (.bl true) H'
theorem ok_isn (T : Tx K mg A) : FnOk P w K mg base CX0 1 A.f_is_name A.d_is_name ["thing"] spIsn := by
  refine T.F_is_name.ok sc_is_name (fun vs H Q E h => ?_) (fun cdv B outer s H vs Q E hr h => ?_)
  · obtain ⟨n, rfl, _⟩ := h
    rfl
  · obtain ⟨n, rfl, hn, q⟩ := h
    have nd := sc_is_name.nd
    obtain ⟨t8, hg_LONGEST_NAME⟩ := cst T.c_LONGEST_NAME
    obtain ⟨ts, hs⟩ := T.s_LETTERS
    refine ⟨_, (C8.pss_cut (ps_if (PW.pt (pw_or (pt_not (pt_val (pe_callB (r := rIsi K) call_isi (by rfl) T.g_isinstance (by decide +kernel) (pa_cons (pv 0) (pa_cons (pe_bltn (v := .ty "str") (by rfl) T.g_str (by decide +kernel) rfl) pa_nil))))) (pw_or1 (pt_not (pt_chain op_le op_le pe_int (pe_callB call_len_str (by rfl) T.g_len PySem.boot_len (pa_cons (pv 0) pa_nil)) (pe_glob (by rfl) hg_LONGEST_NAME (relI _ _))))))) (pss_one (ps_ret pe_bl)) pss_nil)
      (pss_one (ps_ret (pe_callB (cr_all rfl) (by rfl) T.g_all (by decide +kernel) (pa_cons (pe_lc (own := [("letter", 1)]) (g := gName 1) (tt := tYes) rfl nd (pi_str (pv 0)) (blkOk_by (own := [("letter", 1)]) (N := ["thing", "letter"]) (sc := defScope s_is_name) (by decide +kernel)) (fun _ _ _ _ _ => pg_name (i := 1) nd rfl (Or.inl rfl)) (fun _ _ _ _ _ => pts_nil) (fun _ _ _ _ _ => (pe_cmpR op_in_sign (pv 1) (pe_glob (v := .str ("abcdefghijklmnopqrstuvwxyz" : Str)) (by rfl) hs ⟨_, rfl⟩) (by rfl)))) pa_nil))))), ?_⟩
    obtain ⟨w1, w2⟩ := word_ok n hn
    rw [Bool.and_eq_true, Bool.and_eq_true, decide_eq_true_iff, decide_eq_true_iff] at w1
    obtain ⟨w3, w4, w5⟩ := w1
    refine ⟨fun σ' H' => σ' = [some (.str n), none] ∧ H' = H, ?_, ?_⟩
    · refine ⟨_, rfl, _, _, .type "str", .type "str", true, rfl, .ty "str", .base (.str n), kit_ty (by decide +kernel), true, rfl, iteF ?_⟩
      refine ⟨_, rfl, _, rfl, by rw [sizeLine_eq]; omega, _, _, rfl, rfl, _, rfl, ?_⟩
      rw [decide_eq_true (show (1 : Int) ≤ (n.length : Nat) by omega)]
      refine iteT ⟨_, _, rfl, rfl, _, rfl, ?_⟩
      rw [decide_eq_true (show ((n.length : Nat) : Int) ≤ 8 by omega)]
      exact iteF ⟨rfl, rfl⟩
    rintro σ' H' ⟨rfl, rfl⟩
    refine ⟨_, rfl, n, rfl, fun D nD => ?_⟩
    refine lc_it (walk_str (z := n)) (fun j H2 => Acc H' D (List.replicate j (V.bl true)) H2) (Acc.start nD) (fun _ _ _ _ => trivial) ?_ ?_
    · rintro j x H6 H7 hj ac ⟨rfl, c, ec, rfl⟩
      have hc : c ∈ n.cps.toList := by
        rw [← Array.getElem?_toList] at ec
        exact List.mem_of_getElem? ec
      have hm := of_decide_eq_true (List.all_eq_true.mp w5 c hc)
      refine ⟨rfl, _, rfl, c, _, rfl, rfl, ?_⟩
      rw [decide_eq_true hm]
      refine ⟨_, ac.a, small1000 (by rw [List.length_replicate]; have : n.cps.size = n.length := rfl; omega), ?_⟩
      rw [show List.replicate j (V.bl true) ++ [V.bl true] = List.replicate (j + 1) (V.bl true) by rw [List.replicate_succ']]
      exact ac.push
    · intro G ac
      have ea := ac.a
      rw [all_bls] at ea
      refine ⟨D, _, rfl, SqL.of ea, ?_⟩
      rw [show (List.replicate n.cps.size true).all id = true by rw [List.all_replicate]; simp]
      exact q G ac.s
theorem b_isn (T : Tx K mg A) : L2.Binds K A.d_is_name ["thing"] [] := T.F_is_name.binds fun _ _ _ _ _ _ us hl => match us, hl with | [_], _ => rfl
theorem EntsAt.snoc {H : Hp} {xs : List V} {es : List (Deed × List Pr)} {x : V} {e : Deed × List Pr} (h : EntsAt H xs es) (hx : EntAt H x e) : EntsAt H (xs ++ [x]) (es ++ [e]) := by
  induction h with
  | nil => exact .cons hx .nil
  | cons h1 _ ih => exact .cons h1 ih
def spJnote (C : Addr) : Sp := fun vs H Q _ => ∃ (p w t u d b e : Nat) (ps : List Pr) (es : List (Deed × List Pr)) (de : Deed), vs = [.ref p, .ref e] ∧ QAt C H p w t u d b ps es ∧ es.length ≤ 900 ∧ H e = some (.tup (dvs de)) ∧
  ∀ H', Fr p d H H' → (∀ o, H p = some o → H' p = some o) → (∀ Ts, Tabs Ts H → Tabs Ts H') → QAt C H' p w t u d b ps (es ++ [(de, ps)]) → Q .non H'
theorem ok_jnote (T : Tx K mg A) : FnOk P w K mg base CX0 1 A.f_j__note A.d_j__note ["self", "deed"] (spJnote A.CJ) := by
  refine T.F_j__note.ok sc_j__note (fun vs H Q E h => ?_) (fun cdv B outer s H vs Q E hr h => ?_)
  · obtain ⟨p, w, t, u, d, b, e, ps, es, de, rfl, _⟩ := h
    rfl
  · obtain ⟨p, w, t, u, d, b, e, ps, es, de, rfl, ⟨⟨dx, m, h1⟩, h2, h3, ⟨ys, h4, h5⟩⟩, hl, he, q⟩ := h
    have nd := sc_j__note.nd
    refine ⟨_, (pss_one (ps_expr (pe_bm PySem.F.plainAttrs_list PySem.F.slot_list_append PySem.F.type_list_append mt_append (pe_fld (pv 0) rfl) (pa_cons (pe_tup (pa_cons (pv 1) (pa_cons (pe_fld (pv 0) rfl) (pa_cons (pe_fld (pv 0) rfl) pa_nil)))) pa_nil)))), ?_⟩
    have hyl := h5.len
    refine ⟨_, rfl, p, A.CJ, dx, _, _, rfl, h1, T.cTJ, T.jDone, fdJ_dn _ _ _ _ _ _, .inl ⟨rfl, _, SqL.of h4⟩, _, rfl, _, rfl, p, A.CJ, dx, _, _, rfl, h1, T.cTJ, T.jHeap, fdJ_hp _ _ _ _ _ _, _, rfl, p, A.CJ, dx, _, _, rfl, h1, T.cTJ, T.jNames, fdJ_nm _ _ _ _ _ _, by show 3 ≤ sizeLine; decide, fun a na => ?_⟩
    have s1 := Same.up (o := .tup [.ref e, .ref t, .ref u]) na
    have ea := upd_same (H := H) (a := a) (o := .tup [.ref e, .ref t, .ref u])
    generalize upd H a (.tup [.ref e, .ref t, .ref u]) = H1 at s1 ea
    have h41 := s1 _ _ h4
    refine ⟨d, _, _, rfl, rfl, h41, small1000 (by omega), ?_⟩
    have hdp : d ≠ p := ne_of h4 h1 (by intro z; cases z)
    have hf : ∀ c o, H1 c = some o → (∀ xs, o ≠ .lst xs) → upd H1 d (.lst (ys ++ [.ref a])) c = some o := fun c o h n => (upd_ne (fun z => by rw [z, h41] at h; exact n _ (Option.some.inj h).symm)).trans h
    have hz : Fz H (upd H1 d (.lst (ys ++ [.ref a]))) := fun c o h n1 n2 n3 => hf _ _ (s1 _ _ h) n3
    refine q _ ((Fr.same s1).trans (Fr.putD _)) (fun o h => (upd_ne (fun z => hdp z.symm)).trans (s1 _ _ h)) (fun Ts t => tabs_putL (t.ext s1) h41) ⟨⟨dx, m, (upd_ne (fun z => hdp z.symm)).trans (s1 _ _ h1)⟩, hz.tup h2, h3.fz hz, ⟨_, upd_same, (h5.fz hz).snoc ⟨a, e, t, u, rfl, hf _ _ ea (fun _ z => nomatch z), hz.tup he, hz.tup h2, h3.fz hz⟩⟩⟩
theorem b_jnote (T : Tx K mg A) : L2.Binds K A.d_j__note ["self", "deed"] [] := T.F_j__note.binds fun _ _ _ _ _ _ us hl => match us, hl with | [_, _], _ => rfl
theorem keys_snoc (ps : List Pr) (z : Pr) : keys (ps ++ [z]) = keys ps ++ [z.1] := List.map_append ..
theorem names_snoc (ps : List Pr) (z : Pr) : names (ps ++ [z]) = names ps ++ [z.2] := List.map_append ..
theorem KeysB.all {ps : List Pr} (h : KeysB ps) : ∀ n ∈ keys ps, -1000000000 ≤ n ∧ n ≤ 1000000000 := fun n hn => by
  obtain ⟨x, hx, rfl⟩ := List.mem_map.mp hn
  exact h x hx
theorem b_ck (T : Tx K mg A) : L2.Binds K A.d_check_key ["key"] [] := T.F_check_key.binds fun _ _ _ _ _ _ us hl => match us, hl with | [_], _ => rfl
def spCk : Sp := fun vs H Q _ => ∃ i : Int, vs = [.int i] ∧ (-1000000000 ≤ i ∧ i ≤ 1000000000) ∧ Q .non H
theorem ok_ck (T : Tx K mg A) : FnOk P w K mg base CX0 4 A.f_check_key A.d_check_key ["key"] spCk := by
  refine T.F_check_key.ok sc_check_key (fun vs H Q E h => ?_) (fun cdv B outer s H vs Q E hr h => ?_)
  · obtain ⟨i, rfl, _⟩ := h
    rfl
  · obtain ⟨i, rfl, hi, q⟩ := h
    refine ⟨_, (pss_one (ps_if (pt_not (pt_val (pe_call (ok_key T) (hr.mono (by decide)) (by rfl) T.m_is_key T.F_is_key.kp (b_key T) .nil pass0 (pa_cons (pv 0) pa_nil)))) (pss_one ps_never) pss_nil)), ?_⟩
    refine ⟨_, rfl, i, rfl, _, rfl, ?_⟩
    rw [decide_eq_true hi]
    exact iteF q
def spJput (A : Ad) : Sp := fun vs H Q _ => ∃ (p w t u d b : Nat) (ps : List Pr) (es : List (Deed × List Pr)) (n : Str) (k : Int), vs = [.ref p, .str n, .int k] ∧ QAt A.CJ H p w t u d b ps es ∧ (1 ≤ w ∧ w ≤ 4) ∧ n ∈ wordsL ∧ n ∉ names ps ∧ (-1000000000 ≤ k ∧ k ≤ 1000000000) ∧ ps.length < 12 ∧ KeysB ps ∧ es.length ≤ 900 ∧ Tabs (TT A) H ∧
  ∀ (H' : Hp) (t' u' : Addr), Fr p d H H' → Tabs (TT A) H' → QAt A.CJ H' p w t' u' d b (putG d0 w (keys ps) k (k, n) ps) (es ++ [(.put n k, ps)]) → Q (.int (lastW (putP w (keys ps) k) : Nat)) H'
theorem ok_jput (T : Tx K mg A) (TB : LamX.TabB base mg A.c_least_child A.P_least_child) : FnOk P w K mg base CX0 9 A.f_j_put A.d_j_put ["self", "name", "key"] (spJput A) := by
  refine T.F_j_put.ok sc_j_put (fun vs H Q E h => ?_) (fun cdv B outer s H vs Q E hr h => ?_)
  · obtain ⟨p, w, t, u, d, b, ps, es, n, k, rfl, _⟩ := h
    rfl
  · obtain ⟨p, w, t, u, d, b, ps, es, n, k, rfl, hQ, hw, hn, hnn, hk, hl12, hkb, hel, hT, q⟩ := h
    have nd := sc_j_put.nd
    obtain ⟨t8, hg_MOST_PLACES⟩ := cst T.c_MOST_PLACES
    refine ⟨_, (pss_cons (ps_if (PW.pt (pw_or (pt_not (pt_val (pe_call (ok_isn T) (hr.mono (by decide)) (by rfl) T.m_is_name T.F_is_name.kp (b_isn T) .nil pass0 (pa_cons (pv 1) pa_nil)))) (pw_or1 (pt_cmpR (op_in_own T.D_j___contains__ (ok_jcont T) (hr.mono (by decide)) (b_jcont T) pass0) (pv 1) (pv 0) (by rfl))))) (pss_one ps_never) pss_nil)
      (pss_cons (ps_expr (pe_call (ok_ck T) (hr.mono (by decide)) (by rfl) T.m_check_key T.F_check_key.kp (b_ck T) .nil pass0 (pa_cons (pv 2) pa_nil)))
      (pss_cons (ps_if (pt_cmpR op_eq (pe_callB (call_len_own T.D_j___len__ (ok_jlen T) (hr.mono (by decide)) (b_jlen T) pass0) (by rfl) T.g_len PySem.boot_len (pa_cons (pv 0) pa_nil)) (pe_glob (by rfl) hg_MOST_PLACES (relI _ _)) (nomark _)) (pss_one ps_never) pss_nil)
      (pss_cons (ps_expr (pe_meth (pv 0) T.cTJ T.M_j__note (ok_jnote T) (hr.mono (by decide)) (b_jnote T) .nil pass0 (pa_cons (pe_tup (pa_cons pe_str (pa_cons (pv 1) (pa_cons (pv 2) pa_nil)))) pa_nil)))
      (pss_one (ps_ret (pe_meth (pv 0) T.cTJ T.M_j__settle (ok_jset T TB) (hr.mono (by decide)) (b_jset T) .nil pass0 (pa_cons (pe_op (r := rCatA K) op_catA (pe_fld (pv 0) rfl) (pe_tup (pa_cons (pv 2) pa_nil))) (pa_cons (pe_op (r := rCatA K) op_catA (pe_fld (pv 0) rfl) (pe_tup (pa_cons (pv 1) pa_nil))) (pa_cons (pe_callB (call_len_own T.D_j___len__ (ok_jlen T) (hr.mono (by decide)) (b_jlen T) pass0) (by rfl) T.g_len PySem.boot_len (pa_cons (pv 0) pa_nil)) (pa_cons pe_bl pa_nil))))))))))), ?_⟩
    obtain ⟨dx, m, h1⟩ := id hQ.ob
    refine ⟨_, rfl, n, rfl, hn, fun H1 s1 => ⟨_, rfl, iteF ?_⟩⟩
    refine ⟨_, rfl, _, rfl, p, dx, _, rfl, s1 _ _ h1, p, w, t, u, d, b, ps, es, _, rfl, hQ.same s1, .inl ⟨n, rfl, _, rfl, _, rfl, ?_⟩⟩
    refine ite_b (c := false) (by simp; exact hnn) (iteF ?_)
    refine ⟨_, rfl, k, rfl, hk, ?_⟩
    refine ⟨_, rfl, p, dx, _, rfl, s1 _ _ h1, p, w, t, u, d, b, ps, es, rfl, hQ.same s1, _, rfl, by omega, rfl, _, rfl, ?_⟩
    refine ite_b (c := false) (by simp; omega) (iteF ?_)
    refine ⟨_, rfl, p, dx, _, rfl, s1 _ _ h1, fdJ_no _ _ _ _ _ _ (by decide +kernel) (by decide +kernel) (by decide +kernel) (by decide +kernel) (by decide +kernel) (by decide +kernel), _, rfl, _, rfl, by show 3 ≤ sizeLine; decide, fun a na => ?_⟩
    have s2 := s1.trans (Same.up (o := .tup [.str "put", .str n, .int k]) na)
    refine ⟨p, w, t, u, d, b, a, ps, es, .put n k, rfl, hQ.same s2, hel, upd_same, fun H3 f3 fp tt Q3 => ?_⟩
    have f03 := (Fr.same s2).trans f3
    have tt3 := tt _ (hT.ext s2)
    obtain ⟨⟨dx3, m3, g1⟩, g2, g3, g4⟩ := id Q3
    refine ⟨_, rfl, p, dx3, _, rfl, g1, fdJ_no _ _ _ _ _ _ (by decide +kernel) (by decide +kernel) (by decide +kernel) (by decide +kernel) (by decide +kernel) (by decide +kernel), _, rfl, p, A.CJ, dx3, _, _, rfl, g1, T.cTJ, T.jHeap, fdJ_hp _ _ _ _ _ _, _, rfl, by show 1 ≤ sizeLine; decide, fun a1 n1 => ?_⟩
    have s4 := Same.up (o := .tup [V.int k]) n1
    have e1 : upd H3 a1 (.tup [V.int k]) a1 = _ := upd_same
    generalize upd H3 a1 (.tup [V.int k]) = H4 at s4 e1
    show rCatA K (V.ref t) (V.ref a1) _ _
    refine catA' (s4 _ _ g2) e1 (by rw [List.length_map, keys_len, List.length_singleton, sizeLine_eq]; omega) (fun H5 a2 s5 e2 => ?_)
    have s45 := s4.trans s5
    refine ⟨_, rfl, p, A.CJ, dx3, _, _, rfl, s45 _ _ g1, T.cTJ, T.jNames, fdJ_nm _ _ _ _ _ _, _, rfl, by show 1 ≤ sizeLine; decide, fun a3 n3 => ?_⟩
    have s6 := Same.up (o := .tup [V.str n]) n3
    have e3 : upd H5 a3 (.tup [V.str n]) a3 = _ := upd_same
    have s46 := s45.trans s6
    have e26 := s6 _ _ e2
    generalize upd H5 a3 (.tup [V.str n]) = H6 at s46 e3 e26
    show rCatA K (V.ref u) (V.ref a3) _ _
    refine catA (SqT.fz g3.sq (Fz.same s46)) (SqT.of e3) (by rw [List.length_map, names_len, List.length_singleton, sizeLine_eq]; omega) (fun H7 a4 s7 e4 => ?_)
    have s47 := s46.trans s7
    have hQ7 := Q3.same s47
    have eK : (keys ps).map V.int ++ [V.int k] = (keys (ps ++ [(k, n)])).map V.int := by rw [keys_snoc, List.map_append]; rfl
    have eN : (names ps).map V.str ++ [V.str n] = (names (ps ++ [(k, n)])).map V.str := by rw [names_snoc, List.map_append]; rfl
    rw [eK] at e26
    rw [eN] at e4
    have hKB : KeysB (ps ++ [(k, n)]) := fun y hy => by
      rcases List.mem_append.mp hy with h | h
      · exact hkb _ h
      · rw [List.mem_singleton.mp h]
        exact hk
    refine ⟨_, rfl, p, dx3, _, rfl, s47 _ _ g1, p, w, t, u, d, b, ps, _, rfl, hQ7, _, rfl, by omega, p, w, t, u, d, b, a2, a4, ps.length, false, ps, ps ++ [(k, n)], _, rfl, hQ7, hw, ⟨.inr (s7 _ _ e26), by rw [keys_len, List.length_append, List.length_singleton]; omega, hKB.all⟩, e4, by rw [List.length_append, List.length_singleton]; omega, tt3.ext s47, fun H8 t6 u6 b6 T6 Q6 => ?_⟩
    have eW : wayJ false w (keys (ps ++ [(k, n)])) ps.length = putP w (keys ps) k := by
      unfold wayJ putP
      rw [if_neg Bool.false_ne_true, keys_snoc, keys_len]
    rw [eW] at Q6 ⊢
    exact q H8 t6 u6 ((f03.trans (Fr.same s47)).trans b6.fr) T6 Q6
theorem b_jput (T : Tx K mg A) : L2.Binds K A.d_j_put ["self", "name", "key"] [] := T.F_j_put.binds fun _ _ _ _ _ _ us hl => match us, hl with | [_, _, _], _ => rfl
theorem AtN.mem {ps : List Pr} {i : Nat} {n : Str} (h : AtN ps i n) : n ∈ names ps := List.mem_of_getElem? h.1
def WordsOk (ps : List Pr) : Prop := ∀ z ∈ ps, z.2 ∈ wordsL
theorem lay_of {ps : List Pr} (h : WordsOk ps) : ∀ z ∈ names ps, (PyData.str z).canLay0 = true := fun z hz => by
  obtain ⟨x, hx, rfl⟩ := List.mem_map.mp hz
  exact (word_ok _ (h x hx)).2
def spJwhere (C : Addr) : Sp := fun vs H Q _ => ∃ (p w t u d b i : Nat) (ps : List Pr) (es : List (Deed × List Pr)) (n : Str), vs = [.ref p, .str n] ∧ QAt C H p w t u d b ps es ∧ WordsOk ps ∧ AtN ps i n ∧ Q (.int (i : Nat)) H
theorem ok_jwhere (T : Tx K mg A) : FnOk P w K mg base CX0 2 A.f_j_where A.d_j_where ["self", "name"] (spJwhere A.CJ) := by
  refine T.F_j_where.ok sc_j_where (fun vs H Q E h => ?_) (fun cdv B outer s H vs Q E hr h => ?_)
  · obtain ⟨p, w, t, u, d, b, i, ps, es, n, rfl, _⟩ := h
    rfl
  · obtain ⟨p, w, t, u, d, b, i, ps, es, n, rfl, hQ, hW, hA, q⟩ := h
    have nd := sc_j_where.nd
    have hu2 : (B.deeper (envOfC "Queue.where" (defScope s_j_where) s.heap.objs.size A.f_j_where cdv)).units + 65 < cLine := by have := hr.un; omega
    refine ⟨_, (pss_cons (ps_if (pt_cmpR (op_notIn_own T.D_j___contains__ (ok_jcont T) (hr.mono (by decide)) (b_jcont T) pass0) (pv 1) (pv 0) (by rfl)) (pss_one ps_never) pss_nil)
      (pss_one (ps_ret (pe_bmF PySem.F.slot_tuple_index PySem.F.type_tuple_index (mt_indexTS hu2) (pe_fld (pv 0) rfl) (pa_cons (pv 1) pa_nil))))), ?_⟩
    obtain ⟨⟨dx, m, h1⟩, h2, h3, h4⟩ := id hQ
    have h3' : TupF H u ((names ps).map V.str) := by
      rcases h3 with h3 | ⟨e, _⟩
      · exact h3
      · have := hA.mem
        rw [e] at this
        cases this
    refine ⟨_, rfl, _, rfl, p, dx, _, rfl, h1, p, w, t, u, d, b, ps, es, _, rfl, hQ, .inl ⟨n, rfl, _, rfl, _, rfl, ?_⟩⟩
    refine ite_b (c := false) (by rw [decide_eq_true hA.mem]; rfl) (iteF ?_)
    refine ⟨_, rfl, p, A.CJ, dx, _, _, rfl, h1, T.cTJ, T.jNames, fdJ_nm _ _ _ _ _ _, ⟨u, _, rfl, h3'⟩, _, rfl, u, names ps, n, i, rfl, rfl, h3'.sq, lay_of hW, hA.1, hA.2, q⟩
theorem b_jwhere (T : Tx K mg A) : L2.Binds K A.d_j_where ["self", "name"] [] := T.F_j_where.binds fun _ _ _ _ _ _ us hl => match us, hl with | [_, _], _ => rfl
theorem row_set (xs : List V) {i : Nat} (hi : i < xs.length) (v : V) : (cutV xs none (some (i : Int)) ++ [v]) ++ cutV xs (some ((i : Int) + 1)) none = xs.set i v := by
  rw [cutv_to, show ((i : Int) + 1) = ((i + 1 : Nat) : Int) by omega, cutv_from, List.set_eq_take_append_cons_drop, if_pos hi, List.append_assoc]
  rfl
theorem wayJ_setP (w : Nat) (ks : List Int) (i : Nat) (k : Int) : wayJ (decide (k > keyAt ks i)) w (ks.set i k) i = setP w ks i k := by
  unfold wayJ setP
  rw [List.length_set]
  by_cases h : keyAt ks i < k
  · rw [if_pos h, if_pos (decide_eq_true h)]
  · rw [if_neg h, if_neg (by rw [decide_eq_false h]; exact Bool.false_ne_true)]
theorem keys_set (ps : List Pr) (i : Nat) (z : Pr) : keys (ps.set i z) = (keys ps).set i z.1 := List.map_set
theorem names_set (ps : List Pr) (i : Nat) (z : Pr) : names (ps.set i z) = (names ps).set i z.2 := List.map_set
theorem set_mem {α : Type} {xs : List α} {i : Nat} {v z : α} (h : z ∈ xs.set i v) : z ∈ xs ∨ z = v := List.mem_or_eq_of_mem_set h
def setG {α : Type} (d : α) (w : Nat) (ks : List Int) (i : Nat) (k : Int) (x : α) (xs : List α) : List α := mvG d (setP w ks i k) (xs.set i x)
def spJchg (A : Ad) : Sp := fun vs H Q _ => ∃ (p w t u d b i : Nat) (ps : List Pr) (es : List (Deed × List Pr)) (n : Str) (k : Int), vs = [.ref p, .str n, .int k] ∧ QAt A.CJ H p w t u d b ps es ∧ (1 ≤ w ∧ w ≤ 4) ∧ WordsOk ps ∧ AtN ps i n ∧ (-1000000000 ≤ k ∧ k ≤ 1000000000) ∧ ps.length ≤ 12 ∧ KeysB ps ∧ es.length ≤ 900 ∧ Tabs (TT A) H ∧
  ∀ (H' : Hp) (t' u' : Addr), Fr p d H H' → Tabs (TT A) H' → QAt A.CJ H' p w t' u' d b (setG d0 w (keys ps) i k (k, n) ps) (es ++ [(.chg n k, ps)]) → Q (.int (lastW (setP w (keys ps) i k) : Nat)) H'
theorem ok_jchg (T : Tx K mg A) (TB : LamX.TabB base mg A.c_least_child A.P_least_child) : FnOk P w K mg base CX0 9 A.f_j_change A.d_j_change ["self", "name", "key"] (spJchg A) := by
  refine T.F_j_change.ok sc_j_change (fun vs H Q E h => ?_) (fun cdv B outer s H vs Q E hr h => ?_)
  · obtain ⟨p, w, t, u, d, b, i, ps, es, n, k, rfl, _⟩ := h
    rfl
  · obtain ⟨p, w, t, u, d, b, i, ps, es, n, k, rfl, hQ, hw, hW, hA, hk, hl12, hkb, hel, hT, q⟩ := h
    have nd := sc_j_change.nd
    refine ⟨_, (pss_cons (ps_set (i := 3) nd rfl (Or.inl rfl) (pe_meth (pv 0) T.cTJ T.M_j_where (ok_jwhere T) (hr.mono (by decide)) (b_jwhere T) .nil pass0 (pa_cons (pv 1) pa_nil)))
      (pss_cons (ps_expr (pe_call (ok_ck T) (hr.mono (by decide)) (by rfl) T.m_check_key T.F_check_key.kp (b_ck T) .nil pass0 (pa_cons (pv 2) pa_nil)))
      (pss_cons (ps_expr (pe_meth (pv 0) T.cTJ T.M_j__note (ok_jnote T) (hr.mono (by decide)) (b_jnote T) .nil pass0 (pa_cons (pe_tup (pa_cons pe_str (pa_cons (pv 1) (pa_cons (pv 2) pa_nil)))) pa_nil)))
      (pss_cons (ps_set (i := 4) nd rfl (Or.inl rfl) (pe_ix (r := rIxT K) ix_tup (pe_fld (pv 0) rfl) (pv 3) (fun _ _ => rfl)))
      (pss_cons (ps_set (i := 5) nd rfl (Or.inl rfl) (pe_op (r := rCatA K) op_catA (pe_op (r := rCatA K) op_catA (pe_slice (r := rSlA K) sl_tupA (pe_fld (pv 0) rfl) po_none (po_some (pv 3))) (pe_tup (pa_cons (pv 2) pa_nil))) (pe_slice (r := rSlA K) sl_tupA (pe_fld (pv 0) rfl) (po_some (pe_op op_add (pv 3) pe_int)) po_none)))
      (pss_one (ps_ret (pe_meth (pv 0) T.cTJ T.M_j__settle (ok_jset T TB) (hr.mono (by decide)) (b_jset T) .nil pass0 (pa_cons (pv 5) (pa_cons (pe_fld (pv 0) rfl) (pa_cons (pv 3) (pa_cons (pe_cmpR op_gt (pv 2) (pv 4) (nomark _)) pa_nil)))))))))))), ?_⟩
    obtain ⟨dx, m, h1⟩ := id hQ.ob
    have hi := hA.lt
    refine ⟨_, rfl, p, dx, _, rfl, h1, fdJ_no _ _ _ _ _ _ (by decide +kernel) (by decide +kernel) (by decide +kernel) (by decide +kernel) (by decide +kernel) (by decide +kernel), _, rfl, p, w, t, u, d, b, i, ps, es, n, rfl, hQ, hW, hA, ?_⟩
    refine ⟨_, rfl, k, rfl, hk, ?_⟩
    refine ⟨_, rfl, p, dx, _, rfl, h1, fdJ_no _ _ _ _ _ _ (by decide +kernel) (by decide +kernel) (by decide +kernel) (by decide +kernel) (by decide +kernel) (by decide +kernel), _, rfl, _, rfl, by show 3 ≤ sizeLine; decide, fun a na => ?_⟩
    have s2 := Same.up (o := .tup [.str "change", .str n, .int k]) na
    refine ⟨p, w, t, u, d, b, a, ps, es, .chg n k, rfl, hQ.same s2, hel, upd_same, fun H3 f3 fp tt Q3 => ?_⟩
    have f03 := (Fr.same s2).trans f3
    have tt3 := tt _ (hT.ext s2)
    obtain ⟨⟨dx3, m3, g1⟩, g2, g3, g4⟩ := id Q3
    refine ⟨_, rfl, p, A.CJ, dx3, _, _, rfl, g1, T.cTJ, T.jHeap, fdJ_hp _ _ _ _ _ _, _, rfl, t, _, _, _, rfl, rfl, SqT.of g2, key_at (by rw [keys_len]; exact hi), ?_⟩
    refine ⟨_, rfl, p, A.CJ, dx3, _, _, rfl, g1, T.cTJ, T.jHeap, fdJ_hp _ _ _ _ _ _, _, rfl, _, rfl, ?_⟩
    show rSlA K (V.ref t) none (some ((i : Nat) : Int)) _ _
    refine slA' g2 (fun H6 a1 s6 e6 => ?_)
    refine ⟨_, rfl, by show 1 ≤ sizeLine; decide, fun a2 n2 => ?_⟩
    have s7 := Same.up (o := .tup [V.int k]) n2
    have e7 : upd H6 a2 (.tup [V.int k]) a2 = _ := upd_same
    have e67 := s7 _ _ e6
    have s57 := s6.trans s7
    generalize upd H6 a2 (.tup [V.int k]) = H7 at e7 e67 s57
    show rCatA K (V.ref a1) (V.ref a2) _ _
    refine catA' e67 e7 (by rw [cutv_to, List.length_take, List.length_singleton, sizeLine_eq]; omega) (fun H8 a3 s8 e8 => ?_)
    have s58 := s57.trans s8
    refine ⟨_, rfl, p, A.CJ, dx3, _, _, rfl, s58 _ _ g1, T.cTJ, T.jHeap, fdJ_hp _ _ _ _ _ _, _, rfl, _, _, rfl, rfl, _, rfl, ?_⟩
    unfold tNoPart
    show rSlA K (V.ref t) (some (((i : Nat) : Int) + 1)) none _ _
    refine slA' (s58 _ _ g2) (fun H9 a4 s9 e9 => ?_)
    show rCatA K (V.ref a3) (V.ref a4) _ _
    refine catA' (s9 _ _ e8) e9 (by
      rw [cutv_to, show (((i : Nat) : Int) + 1) = ((i + 1 : Nat) : Int) by omega, cutv_from, List.length_append, List.length_take, List.length_drop, List.length_singleton, List.length_map, keys_len, sizeLine_eq]
      omega) (fun H10 a5 s10 e10 => ?_)
    rw [row_set _ (by rw [List.length_map, keys_len]; exact hi)] at e10
    have s510 := s58.trans (s9.trans s10)
    have eK : ((keys ps).map V.int).set i (.int k) = (keys (ps.set i (k, n))).map V.int := by rw [keys_set, List.map_set]
    have eN : names ps = names (ps.set i (k, n)) := by
      rw [names_set]
      have e := hA.1
      have hi2 : i < (names ps).length := by rw [names_len]; exact hi
      rw [List.getElem?_eq_getElem hi2] at e
      rw [← Option.some.inj e, List.set_getElem_self]
    rw [eK] at e10
    have hKB : KeysB (ps.set i (k, n)) := fun y hy => by
      rcases set_mem hy with h | h
      · exact hkb _ h
      · rw [h]
        exact hk
    have hQ10 := Q3.same s510
    refine ⟨_, rfl, p, dx3, _, rfl, s510 _ _ g1, fdJ_no _ _ _ _ _ _ (by decide +kernel) (by decide +kernel) (by decide +kernel) (by decide +kernel) (by decide +kernel) (by decide +kernel), _, rfl, _, rfl, p, A.CJ, dx3, _, _, rfl, s510 _ _ g1, T.cTJ, T.jNames, fdJ_nm _ _ _ _ _ _, _, rfl, _, rfl, _, rfl, _, _, rfl, rfl, p, w, t, u, d, b, a5, u, i, _, ps, ps.set i (k, n), _, rfl, hQ10, hw, ⟨.inr e10, by rw [keys_len, List.length_set]; exact hl12, hKB.all⟩, by rw [← eN]; exact SqT.fz g3.sq (Fz.same s510), by rw [List.length_set]; exact hi, tt3.ext s510, fun H8 t6 u6 b6 T6 Q6 => ?_⟩
    rw [keys_set, wayJ_setP] at Q6 ⊢
    exact q H8 t6 u6 ((f03.trans (Fr.same s510)).trans b6.fr) T6 Q6
theorem b_jchg (T : Tx K mg A) : L2.Binds K A.d_j_change ["self", "name", "key"] [] := T.F_j_change.binds fun _ _ _ _ _ _ us hl => match us, hl with | [_, _, _], _ => rfl
def drpG {α : Type} (d : α) (w : Nat) (ks : List Int) (i : Nat) (xs : List α) : List α := if i + 1 < xs.length then setG d w ks.dropLast i (ks.getLastD 0) (xs.getLastD d) xs.dropLast else xs.dropLast
theorem key_dropLast {ks : List Int} {p : Nat} (hp : p + 1 < ks.length) : keyAt ks.dropLast p = keyAt ks p := by
  unfold keyAt
  rw [List.getD_eq_getElem?_getD, List.getD_eq_getElem?_getD, List.getElem?_dropLast, if_pos (by omega)]
theorem lastD_map {α β : Type} (f : α → β) (d : α) (xs : List α) : (xs.map f).getLastD (f d) = f (xs.getLastD d) := by
  rw [List.getLastD_eq_getLast?, List.getLastD_eq_getLast?, List.getLast?_map]
  cases xs.getLast? <;> rfl
theorem keys_last (ps : List Pr) : (keys ps).getLastD 0 = (ps.getLastD d0).1 := lastD_map (fun z : Pr => z.1) d0 ps
theorem names_last (ps : List Pr) : (names ps).getLastD e0 = (ps.getLastD d0).2 := lastD_map (fun z : Pr => z.2) d0 ps
theorem keys_drop (ps : List Pr) : keys ps.dropLast = (keys ps).dropLast := List.map_dropLast ..
theorem names_drop (ps : List Pr) : names ps.dropLast = (names ps).dropLast := List.map_dropLast ..
theorem lastD_mem {α : Type} (d : α) {xs : List α} (h : 0 < xs.length) : xs.getLastD d ∈ xs := by
  rw [List.getLastD_eq_getLast?, List.getLast?_eq_getElem?, List.getElem?_eq_getElem (by omega)]
  exact List.getElem_mem _
def spJrem (A : Ad) : Sp := fun vs H Q _ => ∃ (p w t u d b i : Nat) (ps : List Pr) (es : List (Deed × List Pr)), vs = [.ref p, .int i] ∧ QAt A.CJ H p w t u d b ps es ∧ (1 ≤ w ∧ w ≤ 4) ∧ i < ps.length ∧ ps.length ≤ 12 ∧ KeysB ps ∧ Tabs (TT A) H ∧
  ∀ (H' : Hp) (t' u' : Addr), ButP p H H' → Tabs (TT A) H' → QAt A.CJ H' p w t' u' d b (drpG d0 w (keys ps) i ps) es → Q .non H'
theorem ok_jrem (T : Tx K mg A) (TB : LamX.TabB base mg A.c_least_child A.P_least_child) : FnOk P w K mg base CX0 9 A.f_j__remove A.d_j__remove ["self", "place"] (spJrem A) := by
  refine T.F_j__remove.ok sc_j__remove (fun vs H Q E h => ?_) (fun cdv B outer s H vs Q E hr h => ?_)
  · obtain ⟨p, w, t, u, d, b, i, ps, es, rfl, _⟩ := h
    rfl
  · obtain ⟨p, w, t, u, d, b, i, ps, es, rfl, hQ, hw, hi, hl12, hkb, hT, q⟩ := h
    have nd := sc_j__remove.nd
    refine ⟨_, (pss_cons (ps_set (i := 2) nd rfl (Or.inl rfl) (pe_ix (r := rIxT K) ix_tup (pe_fld (pv 0) rfl) (pe_un un_neg pe_int) (fun _ _ => rfl)))
      (pss_cons (ps_set (i := 3) nd rfl (Or.inl rfl) (pe_ix (r := rIxT K) ix_tup (pe_fld (pv 0) rfl) (pe_un un_neg pe_int) (fun _ _ => rfl)))
      (pss_cons (ps_set (i := 4) nd rfl (Or.inl rfl) (pe_ix (r := rIxT K) ix_tup (pe_fld (pv 0) rfl) (pv 1) (fun _ _ => rfl)))
      (pss_cons (ps_fld (pv 0) (pe_slice (r := rSlA K) sl_tupA (pe_fld (pv 0) rfl) po_none (po_some (pe_un un_neg pe_int))) rfl)
      (pss_cons (ps_fld (pv 0) (pe_slice (r := rSlF K) sl_tupF (pe_fld (pv 0) rfl) po_none (po_some (pe_un un_neg pe_int))) rfl)
      (pss_one (ps_if (pt_cmpR op_lt (pv 1) (pe_callB (call_len_own T.D_j___len__ (ok_jlen T) (hr.mono (by decide)) (b_jlen T) pass0) (by rfl) T.g_len PySem.boot_len (pa_cons (pv 0) pa_nil)) (nomark _)) (pss_cons (ps_set (i := 5) nd rfl (Or.inl rfl) (pe_op (r := rCatA K) op_catA (pe_op (r := rCatA K) op_catA (pe_slice (r := rSlA K) sl_tupA (pe_fld (pv 0) rfl) po_none (po_some (pv 1))) (pe_tup (pa_cons (pv 2) pa_nil))) (pe_slice (r := rSlA K) sl_tupA (pe_fld (pv 0) rfl) (po_some (pe_op op_add (pv 1) pe_int)) po_none)))
      (pss_cons (ps_set (i := 6) nd rfl (Or.inl rfl) (pe_op (r := rCatA K) op_catA (pe_op (r := rCatA K) op_catA (pe_slice (r := rSlA K) sl_tupA (pe_fld (pv 0) rfl) po_none (po_some (pv 1))) (pe_tup (pa_cons (pv 3) pa_nil))) (pe_slice (r := rSlA K) sl_tupA (pe_fld (pv 0) rfl) (po_some (pe_op op_add (pv 1) pe_int)) po_none)))
      (pss_one (ps_expr (pe_meth (pv 0) T.cTJ T.M_j__settle (ok_jset T TB) (hr.mono (by decide)) (b_jset T) .nil pass0 (pa_cons (pv 5) (pa_cons (pv 6) (pa_cons (pv 1) (pa_cons (pe_cmpR op_gt (pv 2) (pv 4) (nomark _)) pa_nil))))))))) pss_nil))))))), ?_⟩
    obtain ⟨⟨dx, m, h1⟩, h2, h3, ⟨ys, h4, h5⟩⟩ := id hQ
    have hkl := keys_len ps
    have hnl := names_len ps
    refine ⟨_, rfl, p, A.CJ, dx, _, _, rfl, h1, T.cTJ, T.jHeap, fdJ_hp _ _ _ _ _ _, _, rfl, t, _, _, _, rfl, rfl, SqT.of h2, atV_last V.int 0 (by omega), ?_⟩
    refine ⟨_, rfl, p, A.CJ, dx, _, _, rfl, h1, T.cTJ, T.jNames, fdJ_nm _ _ _ _ _ _, _, rfl, u, _, _, _, rfl, rfl, h3.sq, atV_last V.str e0 (by omega), ?_⟩
    refine ⟨_, rfl, p, A.CJ, dx, _, _, rfl, h1, T.cTJ, T.jHeap, fdJ_hp _ _ _ _ _ _, _, rfl, t, _, _, _, rfl, rfl, SqT.of h2, key_at (by omega), ?_⟩
    rw [keys_last, names_last]
    refine ⟨_, rfl, p, A.CJ, dx, _, _, rfl, h1, T.cTJ, T.jHeap, fdJ_hp _ _ _ _ _ _, _, rfl, _, rfl, ?_⟩
    show rSlA K (V.ref t) none (some (-1 : Int)) _ _
    refine slA' h2 (fun H2 t2 s2 e2 => ?_)
    rw [cutv_init (by rw [List.length_map]; omega), ← List.map_dropLast, ← keys_drop] at e2
    have h12 := s2 _ _ h1
    refine ⟨_, rfl, p, A.CJ, dx, _, rfl, h12, T.cTJ, T.jHeap, by show 6 < 1000; decide, ?_⟩
    rw [fdJ_setH]
    have hz3 : Fz H (upd H2 p (.ins A.CJ dx (fdJ w t2 u d b m))) := fun c o h n1 n2 n3 => (upd_ne (fun z => by rw [z, h1] at h; exact n2 _ _ _ (Option.some.inj h).symm)).trans (s2 _ _ h)
    have hb3 : ButP p H (upd H2 p (.ins A.CJ dx (fdJ w t2 u d b m))) := (ButP.of (extN_of s2)).trans (ButP.put _)
    have ht3 : Tabs (TT A) (upd H2 p (.ins A.CJ dx (fdJ w t2 u d b m))) := tabs_ins (hT.ext s2) h12
    have e23 : upd H2 p (.ins A.CJ dx (fdJ w t2 u d b m)) t2 = _ := (upd_ne (ne_of e2 h12 (by intro z; cases z))).trans e2
    have h13 : upd H2 p (.ins A.CJ dx (fdJ w t2 u d b m)) p = _ := upd_same
    have h43 : upd H2 p (.ins A.CJ dx (fdJ w t2 u d b m)) d = _ := (upd_ne (ne_of h4 h1 (by intro z; cases z))).trans (s2 _ _ h4)
    generalize upd H2 p (.ins A.CJ dx (fdJ w t2 u d b m)) = H3 at hz3 hb3 ht3 e23 h13 h43
    refine ⟨_, rfl, p, A.CJ, dx, _, _, rfl, h13, T.cTJ, T.jNames, fdJ_nm _ _ _ _ _ _, _, rfl, _, rfl, u, _, rfl, (h3.fz hz3).sq, not_whole_init (by rw [List.length_map]; omega), fun v oo nv9 hd => ?_⟩
    rw [cutv_init (by rw [List.length_map]; omega), ← List.map_dropLast, ← names_drop]
    have s4 := sameUp (o := .frz oo (.tup ((names ps.dropLast).map V.str))) nv9
    have ev : upd H3 v (.frz oo (.tup ((names ps.dropLast).map V.str))) v = _ := upd_same
    have h14 := s4 _ _ h13
    have e24 := s4 _ _ e23
    have h44 := s4 _ _ h43
    have ht4 := ht3.ext s4
    have hb4 := hb3.trans (ButP.of (extN_of s4))
    have hz4 := hz3.trans (Fz.same s4)
    generalize upd H3 v (.frz oo (.tup ((names ps.dropLast).map V.str))) = H4 at ev h14 e24 h44 ht4 hb4 hz4
    refine ⟨_, rfl, p, A.CJ, dx, _, rfl, h14, T.cTJ, T.jNames, by show 6 < 1000; decide, ?_⟩
    rw [fdJ_setN]
    have hv : ∀ c o, H4 c = some o → (∀ C dx fs, o ≠ .ins C dx fs) → upd H4 p (.ins A.CJ dx (fdJ w t2 v d b m)) c = some o := fun c o h nn => (upd_ne (fun z => by rw [z, h14] at h; exact nn _ _ _ (Option.some.inj h).symm)).trans h
    have hQ5 : QAt A.CJ (upd H4 p (.ins A.CJ dx (fdJ w t2 v d b m))) p w t2 v d b ps.dropLast es := ⟨⟨dx, m, upd_same⟩, hv _ _ e24 (fun _ _ _ z => nomatch z), .inl ⟨oo, hv _ _ ev (fun _ _ _ z => nomatch z), hd⟩, ⟨ys, hv _ _ h44 (fun _ _ _ z => nomatch z), (h5.fz hz4).fz fun c o h n1 n2 n3 => hv _ _ h n2⟩⟩
    have ht5 : Tabs (TT A) (upd H4 p (.ins A.CJ dx (fdJ w t2 v d b m))) := tabs_ins ht4 h14
    have hb5 : ButP p H (upd H4 p (.ins A.CJ dx (fdJ w t2 v d b m))) := hb4.trans (ButP.put _)
    generalize upd H4 p (.ins A.CJ dx (fdJ w t2 v d b m)) = H5 at hQ5 ht5 hb5
    obtain ⟨⟨dx5, m5, g1⟩, g2, g3, g4⟩ := id hQ5
    have hdl : ps.dropLast.length = ps.length - 1 := List.length_dropLast
    refine ⟨_, rfl, _, rfl, p, dx5, _, rfl, g1, p, w, t2, v, d, b, _, es, rfl, hQ5, _, rfl, by omega, _, _, rfl, rfl, _, rfl, ?_⟩
    by_cases hlt : i + 1 < ps.length
    · rw [decide_eq_true (show ((i : Nat) : Int) < ((ps.dropLast.length : Nat) : Int) by omega)]
      refine iteT ?_
      have ek : keys ps.dropLast = (keys ps).dropLast := keys_drop ps
      refine ⟨_, rfl, p, A.CJ, dx5, _, _, rfl, g1, T.cTJ, T.jHeap, fdJ_hp _ _ _ _ _ _, _, rfl, _, rfl, ?_⟩
      show rSlA K (V.ref t2) none (some ((i : Nat) : Int)) _ _
      refine slA' g2 (fun H6 a1 s6 e6 => ?_)
      refine ⟨_, rfl, by show 1 ≤ sizeLine; decide, fun a2 n2 => ?_⟩
      have s7 := Same.up (o := .tup [V.int (ps.getLastD d0).1]) n2
      have e7 : upd H6 a2 (.tup [V.int (ps.getLastD d0).1]) a2 = _ := upd_same
      have e67 := s7 _ _ e6
      have s57 := s6.trans s7
      generalize upd H6 a2 (.tup [V.int (ps.getLastD d0).1]) = H7 at e7 e67 s57
      show rCatA K (V.ref a1) (V.ref a2) _ _
      refine catA' e67 e7 (by rw [cutv_to, List.length_take, List.length_singleton, sizeLine_eq]; omega) (fun H8 a3 s8 e8 => ?_)
      have s58 := s57.trans s8
      refine ⟨_, rfl, p, A.CJ, dx5, _, _, rfl, s58 _ _ g1, T.cTJ, T.jHeap, fdJ_hp _ _ _ _ _ _, _, rfl, _, _, rfl, rfl, _, rfl, ?_⟩
      unfold tNoPart
      show rSlA K (V.ref t2) (some (((i : Nat) : Int) + 1)) none _ _
      refine slA' (s58 _ _ g2) (fun H9 a4 s9 e9 => ?_)
      show rCatA K (V.ref a3) (V.ref a4) _ _
      refine catA' (s9 _ _ e8) e9 (by
        rw [cutv_to, show (((i : Nat) : Int) + 1) = ((i + 1 : Nat) : Int) by omega, cutv_from, List.length_append, List.length_take, List.length_drop, List.length_singleton, List.length_map, keys_len, sizeLine_eq]
        omega) (fun H10 a5 s10 e10 => ?_)
      rw [row_set _ (by rw [List.length_map, keys_len]; omega)] at e10
      have s510 := s58.trans (s9.trans s10)
      have hzm : ps.getLastD d0 ∈ ps := lastD_mem d0 (by omega)
      generalize ez : (ps.getLastD d0) = z at *
      have eK : ((keys ps.dropLast).map V.int).set i (.int z.1) = (keys (ps.dropLast.set i z)).map V.int := by rw [keys_set, List.map_set]
      rw [eK] at e10
      refine ⟨_, rfl, p, A.CJ, dx5, _, _, rfl, s510 _ _ g1, T.cTJ, T.jNames, fdJ_nm _ _ _ _ _ _, _, rfl, _, rfl, ?_⟩
      show rSlA K (V.ref v) none (some ((i : Nat) : Int)) _ _
      refine slA (SqT.fz g3.sq (Fz.same s510)) (fun H11 b1 s11 f1 => ?_)
      refine ⟨_, rfl, by show 1 ≤ sizeLine; decide, fun b2 n2 => ?_⟩
      have s12 := Same.up (o := .tup [V.str z.2]) n2
      have f2 : upd H11 b2 (.tup [V.str z.2]) b2 = _ := upd_same
      have f12 := SqT.fz f1 (Fz.same s12)
      have s512 := s510.trans (s11.trans s12)
      have e12 := s12 _ _ (s11 _ _ e10)
      generalize upd H11 b2 (.tup [V.str z.2]) = H12 at f2 f12 s512 e12
      show rCatA K (V.ref b1) (V.ref b2) _ _
      refine catA f12 (SqT.of f2) (by rw [cutv_to, List.length_take, List.length_singleton, sizeLine_eq]; omega) (fun H13 b3 s13 f3 => ?_)
      have s513 := s512.trans s13
      refine ⟨_, rfl, p, A.CJ, dx5, _, _, rfl, s513 _ _ g1, T.cTJ, T.jNames, fdJ_nm _ _ _ _ _ _, _, rfl, _, _, rfl, rfl, _, rfl, ?_⟩
      show rSlA K (V.ref v) (some (((i : Nat) : Int) + 1)) none _ _
      refine slA (SqT.fz g3.sq (Fz.same s513)) (fun H14 b4 s14 f4 => ?_)
      show rCatA K (V.ref b3) (V.ref b4) _ _
      refine catA (SqT.fz f3 (Fz.same s14)) f4 (by
        rw [cutv_to, show (((i : Nat) : Int) + 1) = ((i + 1 : Nat) : Int) by omega, cutv_from, List.length_append, List.length_take, List.length_drop, List.length_singleton, List.length_map, names_len, sizeLine_eq]
        omega) (fun H15 b5 s15 f5 => ?_)
      rw [row_set _ (by rw [List.length_map, names_len]; omega)] at f5
      have eN : ((names ps.dropLast).map V.str).set i (.str z.2) = (names (ps.dropLast.set i z)).map V.str := by rw [names_set, List.map_set]
      rw [eN] at f5
      have s515 := s513.trans (s14.trans s15)
      have e15 := s15 _ _ (s14 _ _ (s13 _ _ e12))
      have hKB : KeysB (ps.dropLast.set i z) := fun y hy => by
        rcases set_mem hy with h | h
        · exact hkb _ (List.dropLast_sublist ps |>.subset h)
        · rw [h]
          exact hkb _ hzm
      refine ⟨_, rfl, p, dx5, _, rfl, s515 _ _ g1, fdJ_no _ _ _ _ _ _ (by decide +kernel) (by decide +kernel) (by decide +kernel) (by decide +kernel) (by decide +kernel) (by decide +kernel), _, rfl, _, rfl, _, rfl, _, rfl, _, rfl, _, _, rfl, rfl, p, w, t2, v, d, b, a5, b5, i, _, ps.dropLast, ps.dropLast.set i z, es, rfl, hQ5.same s515, hw, ⟨.inr e15, by rw [keys_len, List.length_set]; omega, hKB.all⟩, f5, by rw [List.length_set]; omega, ht5.ext s515, fun H16 t6 u6 b6 T6 Q6 => ?_⟩
      refine q H16 t6 u6 ((hb5.trans (ButP.of (extN_of s515))).trans b6) T6 ?_
      unfold drpG setG
      rw [if_pos hlt, keys_last, ez, ← keys_drop, ← wayJ_setP, keys_drop, key_dropLast (by omega), ← keys_drop, ← keys_set]
      exact Q6
    · rw [decide_eq_false (show ¬ ((i : Nat) : Int) < ((ps.dropLast.length : Nat) : Int) by omega)]
      refine iteF (q H5 t2 v hb5 ht5 ?_)
      unfold drpG
      rw [if_neg hlt]
      exact hQ5
end
end Tw

set_option Elab.async false
set_option linter.all false
set_option maxRecDepth 100000
set_option maxHeartbeats 2000000
namespace Tw
open PySem PySem.Spec PyProof.Rows L2
section
variable {P : Program} {w : World} {K : PySem.W.Frag} {mg : Str → Option Value} {base : Heap} {A : Ad}
open LamX (ExtN Tabs TabS)
theorem b_jrem (T : Tx K mg A) : L2.Binds K A.d_j__remove ["self", "place"] [] := T.F_j__remove.binds fun _ _ _ _ _ _ us hl => match us, hl with | [_, _], _ => rfl
def spJtake (A : Ad) : Sp := fun vs H Q _ => ∃ (p w t u d b : Nat) (ps : List Pr) (es : List (Deed × List Pr)), vs = [.ref p] ∧ QAt A.CJ H p w t u d b ps es ∧ (1 ≤ w ∧ w ≤ 4) ∧ 0 < ps.length ∧ ps.length ≤ 12 ∧ KeysB ps ∧ es.length ≤ 900 ∧ Tabs (TT A) H ∧
  ∀ (H' : Hp) (t' u' : Addr), Fr p d H H' → Tabs (TT A) H' → QAt A.CJ H' p w t' u' d b (drpG d0 w (keys ps) 0 ps) (es ++ [(.tak, ps)]) → Q (.str (ps.getD 0 d0).2) H'
theorem ok_jtake (T : Tx K mg A) (TB : LamX.TabB base mg A.c_least_child A.P_least_child) : FnOk P w K mg base CX0 10 A.f_j_take A.d_j_take ["self"] (spJtake A) := by
  refine T.F_j_take.ok sc_j_take (fun vs H Q E h => ?_) (fun cdv B outer s H vs Q E hr h => ?_)
  · obtain ⟨p, w, t, u, d, b, ps, es, rfl, _⟩ := h
    rfl
  · obtain ⟨p, w, t, u, d, b, ps, es, rfl, hQ, hw, hp0, hl12, hkb, hel, hT, q⟩ := h
    have nd := sc_j_take.nd
    refine ⟨_, (pss_cons (ps_if (pt_not (pt_truL (K := K) rfl (pe_fld (pv 0) rfl) (fun _ => rfl))) (pss_one ps_never) pss_nil)
      (pss_cons (ps_expr (pe_meth (pv 0) T.cTJ T.M_j__note (ok_jnote T) (hr.mono (by decide)) (b_jnote T) .nil pass0 (pa_cons (pe_tup (pa_cons pe_str pa_nil)) pa_nil)))
      (pss_cons (ps_set (i := 1) nd rfl (Or.inl rfl) (pe_ix (r := rIxT K) ix_tup (pe_fld (pv 0) rfl) pe_int (fun _ _ => rfl)))
      (pss_cons (ps_expr (pe_meth (pv 0) T.cTJ T.M_j__remove (ok_jrem T TB) (hr.mono (by decide)) (b_jrem T) .nil pass0 (pa_cons pe_int pa_nil)))
      (pss_one (ps_ret (pv 1))))))), ?_⟩
    obtain ⟨dx, m, h1⟩ := id hQ.ob
    refine ⟨_, rfl, p, A.CJ, dx, _, _, rfl, h1, T.cTJ, T.jNames, fdJ_nm _ _ _ _ _ _, true, .inr (.inl ⟨_, hQ.nm.sq, ?_⟩), iteF ?_⟩
    · cases ps with
      | nil => exact absurd hp0 (by simp)
      | cons a l => rfl
    refine ⟨_, rfl, p, dx, _, rfl, h1, fdJ_no _ _ _ _ _ _ (by decide +kernel) (by decide +kernel) (by decide +kernel) (by decide +kernel) (by decide +kernel) (by decide +kernel), by show 1 ≤ sizeLine; decide, fun a na => ?_⟩
    have s2 := Same.up (o := .tup [.str "take"]) na
    refine ⟨p, w, t, u, d, b, a, ps, es, .tak, rfl, hQ.same s2, hel, upd_same, fun H3 f3 fp tt Q3 => ?_⟩
    have f03 := (Fr.same s2).trans f3
    have tt3 := tt _ (hT.ext s2)
    obtain ⟨⟨dx3, m3, g1⟩, g2, g3, g4⟩ := id Q3
    have en : (names ps).getD 0 e0 = (ps.getD 0 d0).2 := getD_mapG (fun z : Pr => z.2) d0 ps 0
    refine ⟨_, rfl, p, A.CJ, dx3, _, _, rfl, g1, T.cTJ, T.jNames, fdJ_nm _ _ _ _ _ _, u, _, _, _, rfl, rfl, g3.sq, atV_nat V.str e0 (i := 0) (by rw [names_len]; exact hp0), ?_⟩
    rw [en]
    refine ⟨_, rfl, p, dx3, _, rfl, g1, fdJ_no _ _ _ _ _ _ (by decide +kernel) (by decide +kernel) (by decide +kernel) (by decide +kernel) (by decide +kernel) (by decide +kernel), p, w, t, u, d, b, 0, ps, _, rfl, Q3, hw, hp0, hl12, hkb, tt3, fun H8 t6 u6 b6 T6 Q6 => ?_⟩
    exact ⟨_, rfl, q H8 t6 u6 (f03.trans b6.fr) T6 Q6⟩
theorem b_jtake (T : Tx K mg A) : L2.Binds K A.d_j_take ["self"] [] := T.F_j_take.binds fun _ _ _ _ _ _ us hl => match us, hl with | [_], _ => rfl
def spJdrop (A : Ad) : Sp := fun vs H Q _ => ∃ (p w t u d b i : Nat) (ps : List Pr) (es : List (Deed × List Pr)) (n : Str), vs = [.ref p, .str n] ∧ QAt A.CJ H p w t u d b ps es ∧ (1 ≤ w ∧ w ≤ 4) ∧ WordsOk ps ∧ AtN ps i n ∧ ps.length ≤ 12 ∧ KeysB ps ∧ es.length ≤ 900 ∧ Tabs (TT A) H ∧
  ∀ (H' : Hp) (t' u' : Addr), Fr p d H H' → Tabs (TT A) H' → QAt A.CJ H' p w t' u' d b (drpG d0 w (keys ps) i ps) (es ++ [(.drp n, ps)]) → Q (.int (keyAt (keys ps) i)) H'
theorem ok_jdrop (T : Tx K mg A) (TB : LamX.TabB base mg A.c_least_child A.P_least_child) : FnOk P w K mg base CX0 10 A.f_j_drop A.d_j_drop ["self", "name"] (spJdrop A) := by
  refine T.F_j_drop.ok sc_j_drop (fun vs H Q E h => ?_) (fun cdv B outer s H vs Q E hr h => ?_)
  · obtain ⟨p, w, t, u, d, b, i, ps, es, n, rfl, _⟩ := h
    rfl
  · obtain ⟨p, w, t, u, d, b, i, ps, es, n, rfl, hQ, hw, hW, hA, hl12, hkb, hel, hT, q⟩ := h
    have nd := sc_j_drop.nd
    refine ⟨_, (pss_cons (ps_set (i := 2) nd rfl (Or.inl rfl) (pe_meth (pv 0) T.cTJ T.M_j_where (ok_jwhere T) (hr.mono (by decide)) (b_jwhere T) .nil pass0 (pa_cons (pv 1) pa_nil)))
      (pss_cons (ps_expr (pe_meth (pv 0) T.cTJ T.M_j__note (ok_jnote T) (hr.mono (by decide)) (b_jnote T) .nil pass0 (pa_cons (pe_tup (pa_cons pe_str (pa_cons (pv 1) pa_nil))) pa_nil)))
      (pss_cons (ps_set (i := 3) nd rfl (Or.inl rfl) (pe_ix (r := rIxT K) ix_tup (pe_fld (pv 0) rfl) (pv 2) (fun _ _ => rfl)))
      (pss_cons (ps_expr (pe_meth (pv 0) T.cTJ T.M_j__remove (ok_jrem T TB) (hr.mono (by decide)) (b_jrem T) .nil pass0 (pa_cons (pv 2) pa_nil)))
      (pss_one (ps_ret (pv 3))))))), ?_⟩
    obtain ⟨dx, m, h1⟩ := id hQ.ob
    have hi := hA.lt
    refine ⟨_, rfl, p, dx, _, rfl, h1, fdJ_no _ _ _ _ _ _ (by decide +kernel) (by decide +kernel) (by decide +kernel) (by decide +kernel) (by decide +kernel) (by decide +kernel), _, rfl, p, w, t, u, d, b, i, ps, es, n, rfl, hQ, hW, hA, ?_⟩
    refine ⟨_, rfl, p, dx, _, rfl, h1, fdJ_no _ _ _ _ _ _ (by decide +kernel) (by decide +kernel) (by decide +kernel) (by decide +kernel) (by decide +kernel) (by decide +kernel), _, rfl, by show 2 ≤ sizeLine; decide, fun a na => ?_⟩
    have s2 := Same.up (o := .tup [.str "drop", .str n]) na
    refine ⟨p, w, t, u, d, b, a, ps, es, .drp n, rfl, hQ.same s2, hel, upd_same, fun H3 f3 fp tt Q3 => ?_⟩
    have f03 := (Fr.same s2).trans f3
    have tt3 := tt _ (hT.ext s2)
    obtain ⟨⟨dx3, m3, g1⟩, g2, g3, g4⟩ := id Q3
    refine ⟨_, rfl, p, A.CJ, dx3, _, _, rfl, g1, T.cTJ, T.jHeap, fdJ_hp _ _ _ _ _ _, _, rfl, t, _, _, _, rfl, rfl, SqT.of g2, key_at (by rw [keys_len]; exact hi), ?_⟩
    refine ⟨_, rfl, p, dx3, _, rfl, g1, fdJ_no _ _ _ _ _ _ (by decide +kernel) (by decide +kernel) (by decide +kernel) (by decide +kernel) (by decide +kernel) (by decide +kernel), _, rfl, p, w, t, u, d, b, i, ps, _, rfl, Q3, hw, hi, hl12, hkb, tt3, fun H8 t6 u6 b6 T6 Q6 => ?_⟩
    exact ⟨_, rfl, q H8 t6 u6 (f03.trans b6.fr) T6 Q6⟩
theorem b_jdrop (T : Tx K mg A) : L2.Binds K A.d_j_drop ["self", "name"] [] := T.F_j_drop.binds fun _ _ _ _ _ _ us hl => match us, hl with | [_, _], _ => rfl
theorem But.seq {d a : Addr} {H H' : Hp} {xs : List V} (s : But d H H') (h : SqL K H a xs) (n : a ≠ d ∨ ∀ H', SqL K H' a xs) : SqL K H' a xs := by
  rcases n with n | n
  rotate_left
  · exact n _
  rcases h with (h | ⟨o, h⟩) | h
  · exact .inl (.inl (s _ _ n h))
  · exact .inl (.inr ⟨o, s _ _ n h⟩)
  · exact .inr h
theorem WordsZ.prs {zs : List Zr} (h : WordsZ zs) : WordsOk (prs zs) := fun z hz => by
  obtain ⟨y, hy, rfl⟩ := List.mem_map.mp hz
  exact h y hy
theorem lastW_cons (a b : Nat) (l : List Nat) : lastW (a :: b :: l) = lastW (b :: l) := rfl
def muI : Option (Option V) → Nat
  | some (some (.int i)) => i.toNat
  | _ => 0
theorem kz_swp (zs : List Zr) (a b : Nat) : kz (swG z0 zs a b) = swp (kz zs) a b := by
  unfold kz keys prs
  rw [List.map_map, List.map_map]
  exact swG_map (fun z : Zr => z.2.1) z0 zs a b
theorem Rows.set {d : Addr} {H : Hp} {R : Addr} {zs zs' : List Zr} (h : Rows d H R zs) (hm : ∀ z ∈ zs', z ∈ zs) : Rows d (upd H R (.lst (zs'.map fun z => V.ref z.1))) R zs' :=
  ⟨h.nd, upd_same, fun z hz => let ⟨a, b, c⟩ := h.it z (hm z hz); ⟨a, b, by rw [upd_ne b]; exact c⟩⟩
theorem set_ref (zs : List Zr) (i : Nat) (z : Zr) : (zs.map fun z => V.ref z.1).set i (.ref z.1) = (zs.set i z).map fun z => V.ref z.1 := (List.map_set (f := fun z : Zr => V.ref z.1)).symm
theorem But.refl {R : Addr} {H : Hp} : But R H H := fun _ _ _ h => h
theorem swG_mem {α : Type} (d : α) {xs : List α} {a b : Nat} (ha : a < xs.length) (hb : b < xs.length) {z : α} (h : z ∈ swG d xs a b) : z ∈ xs := (swG_perm d ha hb).mem_iff.mp h
/-- rows[a], rows[b] = rows[b], rows[a] -/
def spLup : Sp := fun vs H Q _ => ∃ (d R i w : Nat) (zs : List Zr), vs = [.ref R, .int i, .int w] ∧ (1 ≤ w ∧ w ≤ 4) ∧ Rows d H R zs ∧ i < zs.length ∧ zs.length ≤ 12 ∧
  ∀ H', But R H H' → Rows d H' R (mvG z0 (upW w 20 (kz zs) i) zs) → Q (.int (lastW (upW w 20 (kz zs) i) : Nat)) H'
theorem ok_lup (T : Tx K mg A) : FnOk P w K mg base CX0 1 A.f__law_up A.d__law_up ["rows", "place", "wide"] spLup := by
  refine T.F__law_up.ok sc__law_up (fun vs H Q E h => ?_) (fun cdv B outer s H vs Q E hr h => ?_)
  · obtain ⟨d, R, i, w, zs, rfl, _⟩ := h
    rfl
  · obtain ⟨d, R, i, w, zs, rfl, hw, hR, hi, hl, q⟩ := h
    have nd := sc__law_up.nd
    refine ⟨_, (C8.pss_cut (ps_while PassesOwn.never (PW.pt (pw_and (pt_cmpR op_gt (pv 1) pe_int (nomark _)) (pw_and1 (pt_cmpR op_lt (pe_ix (r := rIxL K) ix_list (pe_ix (r := rIxL K) ix_list (pv 0) (pv 1) (fun _ _ => rfl)) pe_int (fun _ _ => rfl)) (pe_ix (r := rIxL K) ix_list (pe_ix (r := rIxL K) ix_list (pv 0) (pe_op op_fdiv (pe_op op_sub (pv 1) pe_int) (pv 2)) (fun _ _ => rfl)) pe_int (fun _ _ => rfl)) (nomark _))))) (C8.pss_cut (ps_set (i := 3) nd rfl (Or.inl rfl) (pe_op op_fdiv (pe_op op_sub (pv 1) pe_int) (pv 2)))
      (pss_cons (ps_asg (pe_tup (pa_cons (pe_ix (r := rIxL K) ix_list (pv 0) (pv 3) (fun _ _ => rfl)) (pa_cons (pe_ix (r := rIxL K) ix_list (pv 0) (pv 1) (fun _ _ => rfl)) pa_nil))) (pg_tup rfl (pgs_cons (pg_sub (pv 0) (pv 1) set_list) (pgs_cons (pg_sub (pv 0) (pv 3) set_list) pgs_nil))))
      (pss_one (ps_set (i := 1) nd rfl (Or.inl rfl) (pv 3))))))
      (pss_one (ps_ret (pv 1)))), ?_⟩
    generalize eG : mvG z0 (upW w 20 (kz zs) i) zs = G at q
    generalize eL : lastW (upW w 20 (kz zs) i) = L at q
    have inv0 : ∃ f, i ≤ f ∧ mvG z0 (upW w f (kz zs) i) zs = G ∧ lastW (upW w f (kz zs) i) = L := ⟨20, by omega, eG, eL⟩
    clear eG eL
    refine ⟨fun σ' H' => ∃ (x3 : Option V), σ' = [some (.ref R), some (.int L), some (.int w), x3] ∧ But R H H' ∧ Rows d H' R G, ?_, ?_⟩
    · refine while_by (fun σ' H' => ∃ (x : List Zr) (p : Nat) (x3 : Option V), σ' = [some (.ref R), some (.int p), some (.int w), x3] ∧ But R H H' ∧ Rows d H' R x ∧ p < x.length ∧ x.length = zs.length ∧ ∃ f, p ≤ f ∧ mvG z0 (upW w f (kz x) p) x = G ∧ lastW (upW w f (kz x) p) = L)
        (fun σ' _ => muI σ'[1]?) ⟨zs, i, none, rfl, But.refl, hR, hi, rfl, inv0⟩ ?_ ?_
      · rintro σ' H2 ⟨x, p, x3, rfl, b2, r2, hp, hx, f, hf, eg, el⟩
        refine ⟨_, rfl, _, _, rfl, rfl, _, rfl, ?_⟩
        by_cases h0 : p = 0
        · rw [decide_eq_false (show ¬ ((p : Nat) : Int) > 0 by omega)]
          have e1 : upW w f (kz x) p = [p] := by
            cases f with
            | zero => rfl
            | succ f => rw [upW, if_pos h0]
          rw [e1] at eg el
          refine iteF (iteF ⟨x3, ?_, b2, ?_⟩)
          · rw [show L = p from el.symm]
          · rw [← eg]
            exact r2
        rw [decide_eq_true (show ((p : Nat) : Int) > 0 by omega)]
        have hd : (p - 1) / w < p := par_lt (by omega)
        have ed : ((p : Int) - 1) / (w : Int) = (((p - 1) / w : Nat) : Int) := by
          rw [show (p : Int) - 1 = ((p - 1 : Nat) : Int) by omega]
          exact (Int.natCast_ediv _ _).symm
        obtain ⟨f2, rfl⟩ : ∃ f2, f = f2 + 1 := ⟨f - 1, by omega⟩
        have hc2 : (p - 1) / w < x.length := by omega
        refine iteT ⟨_, rfl, _, rfl, R, _, _, _, rfl, rfl, SqL.of r2.a, rat hp, _, _, _, _, rfl, rfl, SqL.of (r2.at_ hp), rfl, _, rfl, _, rfl, _, _, rfl, rfl, _, rfl, _, _, rfl, rfl, ⟨by omega, by omega⟩, R, _, _, _, rfl, rfl, SqL.of r2.a, (by rw [ed]; exact rat hc2), _, _, _, _, rfl, rfl, SqL.of (r2.at_ hc2), rfl, _, _, rfl, rfl, _, rfl, ?_⟩
        by_cases hlt : keyAt (kz x) p < keyAt (kz x) ((p - 1) / w)
        · rw [decide_eq_true hlt]
          refine iteT ?_
          rw [upW, if_neg h0, if_pos hlt] at eg el
          generalize enx : (p - 1) / w = nx at *
          refine ⟨fun σ' H' => σ' = [some (.ref R), some (.int p), some (.int w), some (.int nx)] ∧ H' = H2, ?_, ?_⟩
          · refine ⟨_, rfl, _, _, rfl, rfl, _, rfl, _, _, rfl, rfl, ⟨by omega, by omega⟩, ?_, rfl⟩
            show [some (V.ref R), some (V.int p), some (V.int w), some (V.int ((((p : Nat) : Int) - 1) / ((w : Nat) : Int)))] = _
            rw [ed]
          rintro σ' H3 ⟨rfl, rfl⟩
          refine ⟨_, rfl, _, rfl, R, _, _, _, rfl, rfl, SqL.of r2.a, rat hc2, _, rfl, _, rfl, R, _, _, _, rfl, rfl, SqL.of r2.a, rat hp, by show 2 ≤ sizeLine; decide, fun t ht => ?_⟩
          have st := Same.up (o := .tup [V.ref (x.getD nx z0).1, V.ref (x.getD p z0).1]) ht
          have r3 := r2.same st
          have b3 := b2.trans' (But.same st)
          have et : upd H3 t (.tup [V.ref (x.getD nx z0).1, V.ref (x.getD p z0).1]) t = _ := upd_same
          generalize upd H3 t (.tup [V.ref (x.getD nx z0).1, V.ref (x.getD p z0).1]) = G1 at r3 b3 et
          refine ⟨t, _, rfl, SqT.of et, rfl, _, _, rfl, _, rfl, _, rfl, R, _, _, p, rfl, rfl, r3.a, ixN_nat (by rw [List.length_map]; exact hp), ?_⟩
          rw [set_ref]
          have a4 : upd G1 R (.lst ((x.set p (x.getD nx z0)).map fun z => V.ref z.1)) R = _ := upd_same
          have b4 := b3.trans' (But.put (.lst ((x.set p (x.getD nx z0)).map fun z => V.ref z.1)))
          have bb : But R G1 (upd G1 R (.lst ((x.set p (x.getD nx z0)).map fun z => V.ref z.1))) := But.put _
          have r4 : Rows d (upd G1 R (.lst ((x.set p (x.getD nx z0)).map fun z => V.ref z.1))) R (x.set p (x.getD nx z0)) := r3.set fun z hz => by
            rcases List.mem_or_eq_of_mem_set hz with h | h
            · exact h
            · rw [h]
              exact getD_mem z0 hc2
          generalize upd G1 R (.lst ((x.set p (x.getD nx z0)).map fun z => V.ref z.1)) = G2 at a4 b4 r4 bb
          refine ⟨_, _, rfl, _, rfl, _, rfl, R, _, _, nx, rfl, rfl, a4, ixN_nat (by rw [List.length_map, List.length_set]; exact hc2), ?_⟩
          rw [set_ref, show (x.set p (x.getD nx z0)).set nx (x.getD p z0) = swG z0 x p nx from rfl]
          have r5 : Rows d (upd G2 R (.lst ((swG z0 x p nx).map fun z => V.ref z.1))) R (swG z0 x p nx) := by
            refine ⟨r4.nd, upd_same, fun z hz => ?_⟩
            obtain ⟨h1, h2, h3⟩ := r3.it z (swG_mem z0 hp hc2 hz)
            exact ⟨h1, h2, by rw [upd_ne h2]; exact bb _ _ h2 h3⟩
          refine ⟨rfl, _, rfl, ⟨swG z0 x p nx, nx, _, rfl, b4.trans' (But.put _), r5, by rw [swG_len]; exact hc2, by rw [swG_len]; exact hx, f2, by omega, ?_, ?_⟩, ?_⟩
          · rw [kz_swp, ← eg]
            obtain ⟨l, el2⟩ := upW_head w f2 (swp (kz x) p nx) nx
            rw [el2, mvG]
          · rw [kz_swp, ← el]
            obtain ⟨l, el2⟩ := upW_head w f2 (swp (kz x) p nx) nx
            rw [el2, lastW_cons]
          · show ((nx : Nat) : Int).toNat < ((p : Nat) : Int).toNat
            rw [Int.toNat_natCast, Int.toNat_natCast]
            exact hd
        · rw [decide_eq_false hlt]
          rw [upW, if_neg h0, if_neg hlt] at eg el
          refine iteF ⟨x3, ?_, b2, ?_⟩
          · rw [show L = p from el.symm]
          · rw [← eg]
            exact r2
      · rintro σ' H2 Q1 Q2 mono ⟨v, hv, i, j, e1, e2, b, e3, z⟩
        refine ⟨v, hv, i, j, e1, e2, b, e3, ?_⟩
        cases b with
        | false => exact mono _ _ z
        | true =>
          obtain ⟨a1, a2, a3, a4, a5, a6, a7, a8, a9, a10, a11, a12, a13, a14, a15, a16, a17, a18, a19, a20, a21, a22, a23, a24, a25, a26, a27, a28, a29, a30, a31, a32, a33, a34, a35, a36, a37, a38, a39, a40, a41, a42, a43, a44, a45, a46, a47, a48, a49, a50, a51, a52, a53, a54, a55, a56, a57, z⟩ := z
          exact ⟨a1, a2, a3, a4, a5, a6, a7, a8, a9, a10, a11, a12, a13, a14, a15, a16, a17, a18, a19, a20, a21, a22, a23, a24, a25, a26, a27, a28, a29, a30, a31, a32, a33, a34, a35, a36, a37, a38, a39, a40, a41, a42, a43, a44, a45, a46, a47, a48, a49, a50, a51, a52, a53, a54, a55, a56, a57, mono _ _ z⟩
    rintro σ' H2 ⟨x3, rfl, b2, r2⟩
    exact ⟨_, rfl, q _ b2 r2⟩
theorem b_lup (T : Tx K mg A) : L2.Binds K A.d__law_up ["rows", "place", "wide"] [] := T.F__law_up.binds fun _ _ _ _ _ _ us hl => match us, hl with | [_, _, _], _ => rfl
def spLput : Sp := fun vs H Q _ => ∃ (d R w : Nat) (k : Int) (n : Str) (zs : List Zr), vs = [.ref R, .str n, .int k, .int w] ∧ (1 ≤ w ∧ w ≤ 4) ∧ Rows d H R zs ∧ zs.length < 12 ∧ (∃ o, H d = some o) ∧
  ∀ (H' : Hp) (a : Addr), But R H H' → Rows d H' R (putG z0 w (kz zs) k (a, (k, n)) zs) → Q (.int (lastW (putP w (kz zs) k) : Nat)) H'
theorem ok_lput (T : Tx K mg A) : FnOk P w K mg base CX0 2 A.f__law_put A.d__law_put ["rows", "name", "key", "wide"] spLput := by
  refine T.F__law_put.ok sc__law_put (fun vs H Q E h => ?_) (fun cdv B outer s H vs Q E hr h => ?_)
  · obtain ⟨d, R, w, k, n, zs, rfl, _⟩ := h
    rfl
  · obtain ⟨d, R, w, k, n, zs, rfl, hw, hR, hl, ⟨od, hd⟩, q⟩ := h
    refine ⟨_, (pss_cons (ps_expr (pe_bm PySem.F.plainAttrs_list PySem.F.slot_list_append PySem.F.type_list_append mt_append (pv 0) (pa_cons (pe_lst (pa_cons (pv 2) (pa_cons (pv 1) pa_nil))) pa_nil)))
      (pss_one (ps_ret (pe_call (ok_lup T) (hr.mono (by decide)) (by rfl) T.m__law_up T.F__law_up.kp (b_lup T) .nil pass0 (pa_cons (pv 0) (pa_cons (pe_op op_sub (pe_callB (r := rLn K) call_len_seq (by rfl) T.g_len PySem.boot_len (pa_cons (pv 0) pa_nil)) pe_int) (pa_cons (pv 3) pa_nil))))))), ?_⟩
    refine ⟨_, rfl, .inl ⟨rfl, _, SqL.of hR.a⟩, _, rfl, _, rfl, by show 2 ≤ sizeLine; decide, fun a na => ?_⟩
    have s1 := Same.up (o := .lst [V.int k, V.str n]) na
    have ea : upd H a (.lst [V.int k, V.str n]) a = _ := upd_same
    have r1 := hR.same s1
    have had : a ≠ d := fun z => by rw [z, hd] at na; cases na
    have haR : a ≠ R := fun z => by rw [z, hR.a] at na; cases na
    generalize upd H a (.lst [V.int k, V.str n]) = H1 at s1 ea r1
    refine ⟨R, _, _, rfl, rfl, r1.a, small1000 (by rw [List.length_map]; omega), ?_⟩
    have e2 : (zs.map fun z => V.ref z.1) ++ [V.ref a] = (zs ++ [(a, (k, n))]).map fun z => V.ref z.1 := by rw [List.map_append]; rfl
    rw [e2]
    have r2 : Rows d (upd H1 R (.lst ((zs ++ [(a, (k, n))]).map fun z => V.ref z.1))) R (zs ++ [(a, (k, n))]) := by
      refine ⟨hR.nd, upd_same, fun z hz => ?_⟩
      rcases List.mem_append.mp hz with h | h
      · obtain ⟨h1, h2, h3⟩ := r1.it z h
        exact ⟨h1, h2, by rw [upd_ne h2]; exact h3⟩
      · rw [List.mem_singleton.mp h]
        exact ⟨had, haR, by rw [upd_ne haR]; exact ea⟩
    have b2 : But R H (upd H1 R (.lst ((zs ++ [(a, (k, n))]).map fun z => V.ref z.1))) := (But.same s1).trans' (But.put _)
    generalize upd H1 R (.lst ((zs ++ [(a, (k, n))]).map fun z => V.ref z.1)) = H2 at r2 b2
    have hle : (zs ++ [(a, (k, n))]).length = zs.length + 1 := by rw [List.length_append]; rfl
    refine ⟨_, rfl, _, rfl, R, _, rfl, .inl (SqL.of r2.a), _, _, rfl, rfl, _, rfl, d, R, zs.length, w, _, ?_, hw, r2, by omega, by omega, fun H3 b3 r3 => ?_⟩
    · show [V.ref R, V.int ((((zs ++ [(a, (k, n))]).map fun z => V.ref z.1).length : Nat) - 1), V.int w] = _
      rw [List.length_map, hle]
      congr 2
      congr 1
      omega
    · rw [kz_snoc] at r3 ⊢
      have e3 : upW w 20 (kz zs ++ [k]) zs.length = putP w (kz zs) k := by unfold putP; rw [kz_len]
      rw [e3] at r3 ⊢
      exact q H3 a (b2.trans' b3) r3
theorem b_lput (T : Tx K mg A) : L2.Binds K A.d__law_put ["rows", "name", "key", "wide"] [] := T.F__law_put.binds fun _ _ _ _ _ _ us hl => match us, hl with | [_, _, _, _], _ => rfl
theorem mem_kid {n w p c : Nat} : c ∈ kidL n w p ↔ 1 ≤ c ∧ c < n ∧ (c - 1) / w = p := by
  unfold kidL
  rw [List.mem_map]
  constructor
  · rintro ⟨k, hk, rfl⟩
    obtain ⟨h1, h2⟩ := List.mem_filter.mp hk
    have h1 := List.mem_range.mp h1
    have h2 := of_decide_eq_true h2
    exact ⟨by omega, by omega, by rw [Nat.add_sub_cancel]; exact h2⟩
  · rintro ⟨h1, h2, h3⟩
    refine ⟨c - 1, List.mem_filter.mpr ⟨List.mem_range.mpr (by omega), decide_eq_true h3⟩, by omega⟩
theorem key_set {ks : List Int} {i : Nat} (hi : i < ks.length) (k : Int) (p : Nat) : keyAt (ks.set i k) p = if p = i then k else keyAt ks p := by
  unfold keyAt
  rw [List.getD_eq_getElem?_getD, List.getD_eq_getElem?_getD]
  by_cases h : p = i
  · rw [if_pos h, h, List.getElem?_set_self hi]
    rfl
  · rw [if_neg h, List.getElem?_set_ne (fun z => h z.symm)]
theorem drop_heapL {w : Nat} {ks : List Int} (h : HeapL ks.length w ks) : HeapL ks.dropLast.length w ks.dropLast := fun c c1 c2 => by
  rw [List.length_dropLast] at c2
  have := par_lt (w := w) c1
  rw [key_dropLast (by omega), key_dropLast (by omega)]
  exact h c c1 (by omega)
/-- the law's way of a taking is the program's -/
theorem take_path {w : Nat} (hw : 1 ≤ w) {ks : List Int} (hl : 2 ≤ ks.length) (h : HeapL ks.length w ks) : dnW ks.dropLast.length w 20 (ks.dropLast.set 0 (ks.getLastD 0)) 0 = setP w ks.dropLast 0 (ks.getLastD 0) := by
  have hd : ks.dropLast.length = ks.length - 1 := List.length_dropLast
  have hh := drop_heapL h
  unfold setP
  by_cases hlt : keyAt ks.dropLast 0 < ks.getLastD 0
  · rw [if_pos hlt]
  · rw [if_neg hlt]
    have e1 : upW w 20 (ks.dropLast.set 0 (ks.getLastD 0)) 0 = [0] := by rw [upW, if_pos rfl]
    rw [e1]
    generalize ks.getLastD 0 = k at *
    unfold dnW
    split
    · rfl
    · rename_i h0
      have hm := least_mem (ks := ks.dropLast.set 0 k) h0
      obtain ⟨c1, c2, c3⟩ := mem_kid.mp hm
      have := hh _ c1 c2
      rw [c3] at this
      rw [if_neg]
      rw [key_set (by omega), key_set (by omega), if_neg (by omega), if_pos rfl]
      omega
theorem least_le {ks : List Int} {l : List Nat} {c : Nat} (h : c ∈ l) : keyAt ks (leastC ks l) ≤ keyAt ks c := by
  have hne : l ≠ [] := List.ne_nil_of_mem h
  obtain ⟨n, en⟩ : ∃ n, l.length = n + 1 := ⟨l.length - 1, by have := List.length_pos_iff.mpr hne; omega⟩
  have b := Cl.best_is (fun i => keyAt ks (l.getD i 0)) n
  rw [← en] at b
  obtain ⟨i, hi, e⟩ := List.mem_iff_getElem.mp h
  have this : keyAt ks (l.getD (PySem.argBest (fun i j => decide (keyAt ks (l.getD i 0) < keyAt ks (l.getD j 0))) n) 0) ≤ keyAt ks (l.getD i 0) := b.2.1 i hi
  rw [least_of b] at this
  have e2 : l.getD i 0 = c := by rw [List.getD_eq_getElem?_getD, List.getElem?_eq_getElem hi, ← e]; rfl
  rw [e2] at this
  exact this
def dnSc (b : List Stmt) : Scope := match b with
  | Stmt.While _ body _ _ :: _ => asSc body
  | _ => defScope s_is_integer
def dl (l : List Nat) : List PyData := l.map fun i => PyData.int (i : Nat)
theorem dl_ints (l : List Nat) : dl l = (l.map fun i => ((i : Nat) : Int)).map PyData.int := by unfold dl; rw [List.map_map]; rfl
theorem dl_emp (l : List Nat) : PyData.eqv (.list (dl l)) (.list (dl [])) = decide (l = []) := by
  rw [dl_ints, show dl [] = [] from rfl, emp_eqv]
  cases l <;> simp
theorem dl_shapedL (l : List Nat) : SeqAt.shaped (.list (dl l)) = true := by
  rw [dl_ints]
  exact shaped_ints _
theorem vi_dp (K : PySem.W.Frag) (H : Hp) (l : List Nat) : DpAll K H (vi l) (dl l) := by
  rw [vi_ints, dl_ints]
  exact ints_dp _ _ _
theorem dp_lst (K : PySem.W.Frag) {H : Hp} {p : Addr} {l : List Nat} (h : H p = some (.lst (vi l))) : Dp K H (.ref p) (.list (dl l)) := .lst (SqL.of h) (vi_dp _ _ _)
theorem int_deq (a b : Int) : decide (V.int a = V.int b) = decide (a = b) := by
  by_cases h : a = b
  · rw [decide_eq_true h, decide_eq_true (by rw [h])]
  · rw [decide_eq_false h, decide_eq_false fun z => h (by injection z)]
theorem kid_law : ∀ n, n < 13 → ∀ w, w < 5 → ∀ i, i < n → 1 ≤ w → ((List.range w).map fun j => w * i + 1 + j).filter (fun c => decide (c < n)) = kidL n w i := by decide +kernel
def zl (l : List Nat) : List Int := l.map fun (i : Nat) => (i : Int)
theorem pickN_map (l : List Nat) (b : Nat → Bool) : (l.filterMap fun z => if b z = true then some (V.int (z : Nat)) else none) = (zl (l.filter b)).map V.int := by
  induction l with
  | nil => rfl
  | cons a l ih =>
    by_cases h : b a = true
    · rw [List.filterMap_cons, if_pos h, List.filter_cons_of_pos h, ih]
      rfl
    · rw [List.filterMap_cons, if_neg h, List.filter_cons_of_neg h, ih]
theorem vi_zl (l : List Nat) : vi l = (zl l).map V.int := by
  unfold vi zl
  rw [List.map_map]
  rfl
theorem head_of {kf : Nat → Int} {l : List Nat} {j : Nat} {m : Int} (hb : Cl.FirstLeast (fun i => kf (l.getD i 0)) l.length j) (hm : kf (l.getD j 0) = m) : ∃ r, l.filter (fun z => decide (kf z = m)) = l.getD j 0 :: r := by
  obtain ⟨h1, h2, h3⟩ := hb
  have e : l = l.take j ++ l.getD j 0 :: l.drop (j + 1) := by
    rw [getD_at 0 h1, List.getElem_cons_drop, List.take_append_drop]
  refine ⟨(l.drop (j + 1)).filter (fun z => decide (kf z = m)), ?_⟩
  have e1 : (l.take j).filter (fun z => decide (kf z = m)) = [] := by
    rw [List.filter_eq_nil_iff]
    intro z hz
    obtain ⟨i, hi, ei⟩ := List.mem_iff_getElem.mp hz
    rw [List.length_take] at hi
    rw [List.getElem_take] at ei
    have this : kf (l.getD j 0) < kf (l.getD i 0) := h3 i (by omega)
    have e2 : l.getD i 0 = l[i]'(by omega) := getD_at 0 (by omega)
    rw [e2, ei] at this
    simp
    omega
  have e2 : l.filter (fun z => decide (kf z = m)) = (l.take j ++ l.getD j 0 :: l.drop (j + 1)).filter (fun z => decide (kf z = m)) := congrArg _ e
  rw [e2, List.filter_append, e1, List.nil_append, List.filter_cons, if_pos (by rw [hm]; exact decide_eq_true rfl)]
theorem least_head {ks : List Int} {l : List Nat} (h : l ≠ []) {m : Int} (hm : keyAt ks (leastC ks l) = m) : ∃ r, l.filter (fun z => decide (keyAt ks z = m)) = leastC ks l :: r := by
  obtain ⟨n, en⟩ : ∃ n, l.length = n + 1 := ⟨l.length - 1, by have := List.length_pos_iff.mpr h; omega⟩
  have b := Cl.best_is (fun i => keyAt ks (l.getD i 0)) n
  rw [← en] at b
  have e := least_of b
  rw [← e] at hm ⊢
  exact head_of b hm
/-- the keys of the rows at some places -/
theorem keys_walk {d R S : Addr} {zs : List Zr} {l : List Nat} {H : Hp} {Q : VK} {i : Nat} {x1 x2 x4 x5 x6 : Option V} (hi : i = 5 ∨ i = 6) (hR : Rows d H R zs) (hS : H S = some (.lst (vi l))) (hl : ∀ x ∈ l, x < zs.length) (hl2 : l.length ≤ 900)
    (q : ∀ (H' : Hp) (D : Addr), Same H H' → H' D = some (.lst ((l.map fun x => keyAt (kz zs) x).map V.int)) → Q (.ref D) H') :
    tLc (iList K (tVar 3)) (gName i) tYes (tOp (rIxL K) (tOp (rIxL K) (tVar 0) (tVar i)) (tC (V.int 0))) [i] ([some (.ref R), x1, x2, some (.ref S), x4, x5, x6] : L2.St) H Q := by
  generalize eσ : ([some (.ref R), x1, x2, some (.ref S), x4, x5, x6] : L2.St) = σ
  have h3 : σ[3]? = some (some (.ref S)) := by rw [← eσ]; rfl
  have h0' : ∀ x, ((wipe σ [i]).set i x)[0]? = some (some (.ref R)) := fun x => by
    rw [← eσ]
    rcases hi with rfl | rfl <;> rfl
  have hii : ∀ x, ((wipe σ [i]).set i (some x))[i]? = some (some x) := fun x => by
    rw [← eσ]
    rcases hi with rfl | rfl <;> rfl
  have hww : ∀ x, wipe ((wipe σ [i]).set i (some x)) [i] = wipe σ [i] := fun x => by
    rw [← eσ]
    rcases hi with rfl | rfl <;> rfl
  refine ⟨_, h3, S, rfl, ⟨_, SqL.of hS⟩, fun D nD => ?_⟩
  refine lc_it (walk_list (xs := vi l)) (fun j H' => Acc H D (((l.take j).map fun x => keyAt (kz zs) x).map V.int) H') (Acc.start nD) (fun j H' _ ac => ac.s.seq (SqL.of hS)) ?_ ?_
  · rintro j x H6 H7 hj ac ⟨rfl, ex⟩
    have hj2 : j < l.length := by unfold vi at hj; rw [List.length_map] at hj; exact hj
    have ex2 : x = V.int (l[j] : Nat) := by
      unfold vi at ex
      rw [List.getElem?_map, List.getElem?_eq_getElem hj2] at ex
      exact (Option.some.inj ex).symm
    subst ex2
    have hlt := hl _ (List.getElem_mem hj2)
    have rr := hR.same ac.s
    refine ⟨hww _, iteT (B := Acc H D (((l.take (j + 1)).map fun x => keyAt (kz zs) x).map V.int) H7) ⟨_, h0' _, _, hii _, R, _, _, _, rfl, rfl, SqL.of rr.a, rat hlt, _, _, _, _, rfl, rfl, SqL.of (rr.at_ hlt), rfl, ?_⟩⟩
    refine ⟨_, ac.a, small1000 (by rw [List.length_map, List.length_map, List.length_take]; omega), ?_⟩
    rw [← List.take_append_getElem hj2, List.map_append, List.map_append]
    exact ac.push
  · intro G ac
    unfold vi at ac
    rw [List.length_map, List.take_length] at ac
    exact q _ D ac.s ac.a
end
end Tw

set_option Elab.async false
set_option linter.all false
set_option maxRecDepth 100000
set_option maxHeartbeats 2000000
namespace Tw
open PySem PySem.Spec PyProof.Rows L2
section
variable {P : Program} {w : World} {K : PySem.W.Frag} {mg : Str → Option Value} {base : Heap} {A : Ad}
open LamX (ExtN Tabs TabS)
def spLdn : Sp := fun vs H Q _ => ∃ (d R i w : Nat) (zs : List Zr), vs = [.ref R, .int i, .int w] ∧ (1 ≤ w ∧ w ≤ 4) ∧ Rows d H R zs ∧ i < zs.length ∧ zs.length ≤ 12 ∧
  ∀ H', But R H H' → Rows d H' R (mvG z0 (dnW zs.length w 20 (kz zs) i) zs) → Q (.int (lastW (dnW zs.length w 20 (kz zs) i) : Nat)) H'
theorem ok_ldn (T : Tx K mg A) : FnOk P w K mg base CX0 1 A.f__law_down A.d__law_down ["rows", "place", "wide"] spLdn := by
  refine T.F__law_down.ok sc__law_down (fun vs H Q E h => ?_) (fun cdv B outer s H vs Q E hr h => ?_)
  · obtain ⟨d, R, i, w, zs, rfl, _⟩ := h
    rfl
  · obtain ⟨d, R, i, w, zs, rfl, hw, hR, hi, hl, q⟩ := h
    have nd := sc__law_down.nd
    have hu := hr.units
    refine ⟨_, (pss_one (ps_while PassesOwn.never (pt_val pe_bl) (C8.pss_cut (ps_set (i := 3) nd rfl (Or.inr rfl) (pe_lc (own := [("one", 5)]) (g := gName 5) rfl nd (pi_range2 rfl T.g_range (pa_cons (pe_op op_add (pe_op op_mul (pv 2) (pv 1)) pe_int) (pa_cons (pe_op op_add (pe_op op_add (pe_op op_mul (pv 2) (pv 1)) (pv 2)) pe_int) pa_nil))) (blkOk_by (own := [("one", 5)]) (N := ["rows", "place", "wide", "some", "least", "one", "late"]) (sc := defScope s__law_down) (by decide +kernel)) (fun _ _ _ _ _ => pg_name (i := 5) nd rfl (Or.inl rfl)) (fun _ _ _ _ _ => pts_one (pt_cmpR op_lt (pv 5) (pe_callB (r := rLn K) call_len_seq (by rfl) T.g_len PySem.boot_len (pa_cons (pv 0) pa_nil)) (nomark _))) (fun _ _ _ _ _ => (pv 5))))
      (C8.pss_cut (ps_if (PW.pt (pw_or (pt_cmpR (op_eqD hu) (pv 3) (pe_lst pa_nil) (nomark _)) (pw_or1 (pt_cmpR op_le (pe_ix (r := rIxL K) ix_list (pe_ix (r := rIxL K) ix_list (pv 0) (pv 1) (fun _ _ => rfl)) pe_int (fun _ _ => rfl)) (pe_callB (r := rMin K) (cr_min rfl) (by rfl) T.g_min (by decide +kernel) (pa_cons (pe_lc (own := [("one", 5)]) (g := gName 5) (tt := tYes) rfl nd (pi_list (pv 3)) (blkOk_by (own := [("one", 5)]) (N := ["rows", "place", "wide", "some", "least", "one", "late"]) (sc := defScope s__law_down) (by decide +kernel)) (fun _ _ _ _ _ => pg_name (i := 5) nd rfl (Or.inl rfl)) (fun _ _ _ _ _ => pts_nil) (fun _ _ _ _ _ => (pe_ix (r := rIxL K) ix_list (pe_ix (r := rIxL K) ix_list (pv 0) (pv 5) (fun _ _ => rfl)) pe_int (fun _ _ => rfl)))) pa_nil)) (nomark _))))) (pss_one (ps_ret (pv 1))) pss_nil)
      (C8.pss_cut (ps_set (i := 4) nd rfl (Or.inl rfl) (pe_ix (r := rIxL K) ix_list (pe_lc (own := [("one", 5)]) (g := gName 5) rfl nd (pi_list (pv 3)) (blkOk_by (own := [("one", 5)]) (N := ["rows", "place", "wide", "some", "least", "one", "late"]) (sc := defScope s__law_down) (by decide +kernel)) (fun _ _ _ _ _ => pg_name (i := 5) nd rfl (Or.inl rfl)) (fun _ _ _ _ _ => pts_one (pt_cmpR op_eq (pe_ix (r := rIxL K) ix_list (pe_ix (r := rIxL K) ix_list (pv 0) (pv 5) (fun _ _ => rfl)) pe_int (fun _ _ => rfl)) (pe_callB (r := rMin K) (cr_min rfl) (by rfl) T.g_min (by decide +kernel) (pa_cons (pe_lc (wi := iList K (tVar 3)) (te := tOp (rIxL K) (tOp (rIxL K) (tVar 0) (tVar 6)) (tC (V.int 0))) (own := [("late", 6)]) (g := gName 6) (tt := tYes) rfl nd (pi_list (pv 3)) (blkOk_by (own := [("late", 6)]) (N := ["rows", "place", "wide", "some", "least", "one", "late"]) (sc := relS (dnSc (defBody s__law_down)) (defScope s__law_down)) (by decide +kernel)) (fun _ _ _ _ _ => pg_name (i := 6) nd rfl (Or.inl rfl)) (fun _ _ _ _ _ => pts_nil) (fun _ _ _ _ _ => (pe_ix (r := rIxL K) ix_list (pe_ix (r := rIxL K) ix_list (pv 0) (pv 6) (fun _ _ => rfl)) pe_int (fun _ _ => rfl)))) pa_nil)) (nomark _))) (fun _ _ _ _ _ => (pv 5))) pe_int (fun _ _ => rfl)))
      (pss_cons (ps_asg (pe_tup (pa_cons (pe_ix (r := rIxL K) ix_list (pv 0) (pv 4) (fun _ _ => rfl)) (pa_cons (pe_ix (r := rIxL K) ix_list (pv 0) (pv 1) (fun _ _ => rfl)) pa_nil))) (pg_tup rfl (pgs_cons (pg_sub (pv 0) (pv 1) set_list) (pgs_cons (pg_sub (pv 0) (pv 4) set_list) pgs_nil))))
      (pss_one (ps_set (i := 1) nd rfl (Or.inl rfl) (pv 4))))))))), ?_⟩
    generalize eG : mvG z0 (dnW zs.length w 20 (kz zs) i) zs = G at q
    generalize eL : lastW (dnW zs.length w 20 (kz zs) i) = L at q
    have inv0 : ∃ f, zs.length ≤ i + f ∧ mvG z0 (dnW zs.length w f (kz zs) i) zs = G ∧ lastW (dnW zs.length w f (kz zs) i) = L := ⟨20, by omega, eG, eL⟩
    clear eG eL
    refine while_by (fun σ' H' => ∃ (x : List Zr) (p : Nat) (x3 x4 x5 x6 : Option V), σ' = [some (.ref R), some (.int p), some (.int w), x3, x4, x5, x6] ∧ But R H H' ∧ Rows d H' R x ∧ p < zs.length ∧ x.length = zs.length ∧ ∃ f, zs.length ≤ p + f ∧ mvG z0 (dnW zs.length w f (kz x) p) x = G ∧ lastW (dnW zs.length w f (kz x) p) = L)
        (fun σ' _ => 12 - muI σ'[1]?) ⟨zs, i, none, none, none, none, rfl, But.refl, hR, hi, rfl, inv0⟩ ?_ ?_
    · rintro σ' H2 ⟨x, p, x3, x4, x5, x6, rfl, b2, r2, hp, hx, f, hf, eg, el⟩
      refine ⟨_, rfl, ?_⟩
      refine iteT ?_
      have hxl : x.length ≤ 12 := by omega
      generalize en : zs.length = n at *
      refine ⟨fun σ' H' => ∃ (S : Addr) (y5 : Option V), σ' = [some (.ref R), some (.int p), some (.int w), some (.ref S), x4, y5, x6] ∧ Same H2 H' ∧ H' S = some (.lst (vi (kidL n w p))), ?_, ?_⟩
      · have ef : ((w : Int) * (p : Nat) + 1) = ((w * p + 1 : Nat) : Int) := by push_cast; rfl
        have ef2 : ((w : Int) * (p : Nat) + (w : Int) + 1) = ((w * p + 1 : Nat) : Int) + (w : Int) := by push_cast; omega
        have hwl2 : w * p ≤ 4 * 12 := Nat.mul_le_mul hw.2 (by omega)
        obtain ⟨first, efi⟩ : ∃ first, first = w * p + 1 := ⟨_, rfl⟩
        have hkl := kid_law n (by omega) w (by omega) p hp hw.1
        rw [← efi] at hkl
        refine ⟨_, rfl, _, rfl, _, _, rfl, rfl, .inl ⟨by omega, by omega⟩, _, _, rfl, rfl, _, rfl, _, rfl, _, _, rfl, rfl, .inl ⟨by omega, by omega⟩, _, rfl, _, _, rfl, rfl, _, _, rfl, rfl, _, _, rfl, ?_⟩
        rw [ef2, ef, ← efi]
        refine ⟨⟨by omega, by omega, by omega, by omega⟩, fun D2 nD2 => ?_⟩
        rw [show (((first : Nat) : Int) + (w : Int) - ((first : Nat) : Int)).toNat = w by omega]
        refine lc_it (walk_range (lo := ((first : Nat) : Int)) (n := w)) (PickI H2 D2 ((List.range w).map fun j => first + j) fun z => if decide (z < n) = true then some (V.int (z : Nat)) else none) (pick_start nD2) (fun _ _ _ _ => trivial) ?_ ?_
        · rintro j x8 H5 H6 hj pk ⟨rfl, ex⟩
          have hj2 : j < ((List.range w).map fun j => first + j).length := by rw [List.length_map, List.length_range]; exact hj
          have el : ((List.range w).map fun j => first + j)[j] = first + j := by rw [List.getElem_map, List.getElem_range]
          obtain rfl : x8 = V.int ((first + j : Nat) : Int) := by
            rw [ex]
            push_cast
            rfl
          refine ⟨rfl, _, rfl, _, rfl, R, _, rfl, .inl (SqL.of (r2.same pk.s).a), _, _, rfl, rfl, _, rfl, ?_⟩
          rw [List.length_map, hx]
          by_cases h : first + j < n
          · rw [decide_eq_true (show ((first + j : Nat) : Int) < (n : Nat) by omega)]
            exact iteT ⟨_, rfl, pick_yes hj2 (by rw [List.length_map, List.length_range]; omega) (by rw [el, if_pos (decide_eq_true h)]) (Same.refl _) pk⟩
          · rw [decide_eq_false (show ¬ ((first + j : Nat) : Int) < (n : Nat) by omega)]
            exact iteF (pick_no hj2 (by rw [el, if_neg (fun z => h (of_decide_eq_true z))]) (Same.refl _) pk)
        · intro G pk
          have aL := pick_end (by rw [List.length_map, List.length_range]) pk
          rw [pickN_map, hkl] at aL
          exact ⟨D2, x5, rfl, aL.s, by rw [vi_zl]; exact aL.a⟩
      rintro σ' H3 ⟨S, y5, rfl, s3, eS⟩
      have r3 := r2.same s3
      have hkin : ∀ c ∈ kidL n w p, c < x.length := fun c hc => by rw [hx]; exact (kid_in hw.1 hc).2
      have hk4 := kid_len n (by omega) w (by omega) p hp hw.1
      refine ⟨fun σ' H' => σ' = [some (.ref R), some (.int p), some (.int w), some (.ref S), x4, y5, x6] ∧ Same H2 H' ∧ H' S = some (.lst (vi (kidL n w p))) ∧ kidL n w p ≠ [] ∧ keyAt (kz x) (leastC (kz x) (kidL n w p)) < keyAt (kz x) p, ?_, ?_⟩
      · refine ⟨_, rfl, Nat.zero_le _, fun e0 ne0 => ?_⟩
        have s4 := Same.up (o := .lst []) ne0
        have r4 := r3.same s4
        have eS4 := s4 _ _ eS
        have he0 : upd H3 e0 (.lst []) e0 = some (.lst (vi [])) := upd_same
        have s24 := s3.trans s4
        generalize upd H3 e0 (.lst []) = H4 at r4 eS4 he0 s24
        refine ⟨_, _, dp_lst _ eS4, dp_lst _ he0, dl_shapedL _, dl_shapedL _, _, rfl, ?_⟩
        rw [dl_emp]
        by_cases hk0 : kidL n w p = []
        · rw [decide_eq_true hk0]
          have e1 : dnW n w f (kz x) p = [p] := by
            cases f with
            | zero => rfl
            | succ f => rw [dnW, if_pos hk0]
          rw [e1] at eg el
          refine iteT (iteT ⟨_, rfl, ?_⟩)
          rw [show L = p from el.symm, show G = x from eg.symm] at q
          exact q _ (b2.trans' (But.same s24)) r4
        · rw [decide_eq_false hk0]
          refine iteF ⟨_, rfl, _, rfl, R, _, _, _, rfl, rfl, SqL.of r4.a, rat (by omega), _, _, _, _, rfl, rfl, SqL.of (r4.at_ (by omega)), rfl, ?_⟩
          unfold tCB tCons
          refine keys_walk (K := K) (i := 5) (.inl rfl) r4 eS4 hkin (by omega) (fun H5 D s5 eD => ?_)
          refine ⟨D, _, rfl, SqL.of eD, by rw [List.length_map]; exact List.length_pos_iff.mpr hk0, fun m hm hmin => ?_⟩
          have em : m = keyAt (kz x) (leastC (kz x) (kidL n w p)) := by
            obtain ⟨c, hc, rfl⟩ := List.mem_map.mp hm
            exact Int.le_antisymm (hmin _ (List.mem_map.mpr ⟨_, least_mem hk0, rfl⟩)) (least_le hc)
          refine ⟨_, _, rfl, rfl, _, rfl, ?_⟩
          rw [em]
          by_cases hle : keyAt (kz x) p ≤ keyAt (kz x) (leastC (kz x) (kidL n w p))
          · rw [decide_eq_true hle]
            have e1 : dnW n w f (kz x) p = [p] := by
              cases f with
              | zero => rfl
              | succ f => rw [dnW, if_neg hk0, if_neg (by omega)]
            rw [e1] at eg el
            refine iteT ⟨_, rfl, ?_⟩
            rw [show L = p from el.symm, show G = x from eg.symm] at q
            exact q _ (b2.trans' (But.same (s24.trans s5))) (r4.same s5)
          · rw [decide_eq_false hle]
            exact iteF ⟨rfl, s24.trans s5, s5 _ _ eS4, hk0, by omega⟩
      rintro σ' H4 ⟨rfl, s24, eSX, hk0, hlt⟩
      obtain ⟨lc, elc⟩ : ∃ lc, leastC (kz x) (kidL n w p) = lc := ⟨_, rfl⟩
      have hlm := least_mem (ks := kz x) hk0
      obtain ⟨fr, efr⟩ := least_head (ks := kz x) hk0 rfl
      rw [elc] at hlt hlm efr
      obtain ⟨hpc, hcn⟩ := kid_in hw.1 hlm
      have hcx := hkin _ hlm
      have r4 := r2.same s24
      refine ⟨fun σ' H' => ∃ y5 : Option V, σ' = [some (.ref R), some (.int p), some (.int w), some (.ref S), some (.int lc), y5, x6] ∧ Same H4 H', ?_, ?_⟩
      · refine ⟨_, rfl, S, rfl, ⟨_, SqL.of eSX⟩, fun D nD => ?_⟩
        refine lc_it (walk_list (xs := vi (kidL n w p))) (PickI H4 D (kidL n w p) fun z => if decide (keyAt (kz x) z = keyAt (kz x) lc) = true then some (V.int (z : Nat)) else none) (pick_start nD) (fun j H' _ pk => pk.s.seq (SqL.of eSX)) ?_ ?_
        · rintro j x8 H5 H6 hj pk ⟨rfl, ex⟩
          have hj2 : j < (kidL n w p).length := by unfold vi at hj; rw [List.length_map] at hj; exact hj
          obtain rfl : x8 = V.int ((kidL n w p)[j] : Nat) := by
            unfold vi at ex
            rw [List.getElem?_map, List.getElem?_eq_getElem hj2] at ex
            exact (Option.some.inj ex).symm
          have hjx := hkin _ (List.getElem_mem hj2)
          have r6 := r4.same pk.s
          refine ⟨rfl, _, rfl, _, rfl, R, _, _, _, rfl, rfl, SqL.of r6.a, rat hjx, _, _, _, _, rfl, rfl, SqL.of (r6.at_ hjx), rfl, ?_⟩
          unfold tCB tCons
          refine keys_walk (K := K) (i := 6) (.inr rfl) r6 (pk.s _ _ eSX) hkin (by omega) (fun H7 D7 s7 eD => ?_)
          refine ⟨D7, _, rfl, SqL.of eD, by rw [List.length_map]; exact List.length_pos_iff.mpr hk0, fun m hm hmin => ?_⟩
          have em : m = keyAt (kz x) lc := by
            obtain ⟨c, hc, rfl⟩ := List.mem_map.mp hm
            rw [← elc]
            exact Int.le_antisymm (hmin _ (List.mem_map.mpr ⟨_, least_mem hk0, rfl⟩)) (least_le hc)
          refine ⟨rfl, _, rfl, ?_⟩
          rw [em, int_deq]
          by_cases hk : keyAt (kz x) (kidL n w p)[j] = keyAt (kz x) lc
          · rw [decide_eq_true hk]
            exact iteT ⟨_, rfl, pick_yes hj2 (by omega) (if_pos (decide_eq_true hk)) s7 pk⟩
          · rw [decide_eq_false hk]
            exact iteF (pick_no hj2 (if_neg (by rw [decide_eq_false hk]; exact Bool.false_ne_true)) s7 pk)
        · intro G2 pk
          have aL := pick_end (by unfold vi; rw [List.length_map]) pk
          rw [pickN_map, efr] at aL
          have e9 : atI ((zl (lc :: fr)).map V.int) 0 = some (V.int (lc : Nat)) := by
            unfold zl atI ixN
            simp
          exact ⟨D, _, _, _, rfl, rfl, SqL.of aL.a, e9, y5, rfl, aL.s⟩
      rintro σ' H5 ⟨y6, rfl, s5⟩
      have r5 := r4.same s5
      have b5 := b2.trans' (But.same (s24.trans s5))
      obtain ⟨f2, rfl⟩ : ∃ f2, f = f2 + 1 := ⟨f - 1, by omega⟩
      rw [dnW, if_neg hk0, elc, if_pos hlt] at eg el
      have hpx : p < x.length := by omega
      refine ⟨_, rfl, _, rfl, R, _, _, _, rfl, rfl, SqL.of r5.a, rat hcx, _, rfl, _, rfl, R, _, _, _, rfl, rfl, SqL.of r5.a, rat hpx, by show 2 ≤ sizeLine; decide, fun t ht => ?_⟩
      have st := Same.up (o := .tup [V.ref (x.getD lc z0).1, V.ref (x.getD p z0).1]) ht
      have r6 := r5.same st
      have b6 := b5.trans' (But.same st)
      have et : upd H5 t (.tup [V.ref (x.getD lc z0).1, V.ref (x.getD p z0).1]) t = _ := upd_same
      generalize upd H5 t (.tup [V.ref (x.getD lc z0).1, V.ref (x.getD p z0).1]) = G1 at r6 b6 et
      refine ⟨t, _, rfl, SqT.of et, rfl, _, _, rfl, _, rfl, _, rfl, R, _, _, p, rfl, rfl, r6.a, ixN_nat (by rw [List.length_map]; exact hpx), ?_⟩
      rw [set_ref]
      have a4 : upd G1 R (.lst ((x.set p (x.getD lc z0)).map fun z => V.ref z.1)) R = _ := upd_same
      have b7 := b6.trans' (But.put (.lst ((x.set p (x.getD lc z0)).map fun z => V.ref z.1)))
      have bb : But R G1 (upd G1 R (.lst ((x.set p (x.getD lc z0)).map fun z => V.ref z.1))) := But.put _
      generalize upd G1 R (.lst ((x.set p (x.getD lc z0)).map fun z => V.ref z.1)) = G2 at a4 b7 bb
      refine ⟨_, _, rfl, _, rfl, _, rfl, R, _, _, lc, rfl, rfl, a4, ixN_nat (by rw [List.length_map, List.length_set]; exact hcx), ?_⟩
      rw [set_ref, show (x.set p (x.getD lc z0)).set lc (x.getD p z0) = swG z0 x p lc from rfl]
      have r8 : Rows d (upd G2 R (.lst ((swG z0 x p lc).map fun z => V.ref z.1))) R (swG z0 x p lc) := by
        refine ⟨r6.nd, upd_same, fun z hz => ?_⟩
        obtain ⟨h1, h2, h3⟩ := r6.it z (swG_mem z0 hpx hcx hz)
        exact ⟨h1, h2, by rw [upd_ne h2]; exact bb _ _ h2 h3⟩
      refine ⟨rfl, _, rfl, ⟨swG z0 x p lc, lc, _, _, _, _, rfl, b7.trans' (But.put _), r8, by omega, by rw [swG_len]; exact hx, f2, by omega, ?_, ?_⟩, ?_⟩
      · rw [kz_swp, ← eg]
        obtain ⟨l, el2⟩ := dnW_head n w f2 (swp (kz x) p lc) lc
        rw [el2, mvG]
      · rw [kz_swp, ← el]
        obtain ⟨l, el2⟩ := dnW_head n w f2 (swp (kz x) p lc) lc
        rw [el2, lastW_cons]
      · show 12 - ((lc : Nat) : Int).toNat < 12 - ((p : Nat) : Int).toNat
        rw [Int.toNat_natCast, Int.toNat_natCast]
        omega
    · rintro σ' H2 Q1 Q2 mono ⟨v, hv, z⟩
      refine ⟨v, hv, ?_⟩
      exact mono _ _ z
theorem b_ldn (T : Tx K mg A) : L2.Binds K A.d__law_down ["rows", "place", "wide"] [] := T.F__law_down.binds fun _ _ _ _ _ _ us hl => match us, hl with | [_, _, _], _ => rfl
theorem kz_set (zs : List Zr) (i : Nat) (z : Zr) : kz (zs.set i z) = (kz zs).set i z.2.1 := by unfold kz keys prs; simp [List.map_set]
theorem kz_drop (zs : List Zr) : kz zs.dropLast = (kz zs).dropLast := by unfold kz keys prs; simp [List.map_dropLast]
theorem kz_last (zs : List Zr) : (kz zs).getLastD 0 = (zs.getLastD z0).2.1 := by
  unfold kz keys prs
  rw [List.map_map]
  exact lastD_map (fun z : Zr => z.2.1) z0 zs
theorem ref_drop (zs : List Zr) : (zs.map fun z => V.ref z.1).dropLast = zs.dropLast.map fun z => V.ref z.1 := (List.map_dropLast ..).symm
theorem ref_last {zs : List Zr} (h : 0 < zs.length) : (zs.map fun z => V.ref z.1)[(zs.map fun z => V.ref z.1).length - 1]? = some (.ref (zs.getLastD z0).1) := by
  rw [List.length_map, List.getElem?_map, List.getElem?_eq_getElem (by omega), List.getLastD_eq_getLast?, List.getLast?_eq_getElem?, List.getElem?_eq_getElem (by omega)]
  rfl
def spLtk : Sp := fun vs H Q _ => ∃ (d R w : Nat) (zs : List Zr), vs = [.ref R, .int w] ∧ (1 ≤ w ∧ w ≤ 4) ∧ Rows d H R zs ∧ 0 < zs.length ∧ zs.length ≤ 12 ∧ WordsZ zs ∧ HeapL (kz zs).length w (kz zs) ∧
  ∀ H', But R H H' → Rows d H' R (drpG z0 w (kz zs) 0 zs) → Q (.str (zs.getD 0 z0).2.2) H'
theorem ok_ltk (T : Tx K mg A) : FnOk P w K mg base CX0 2 A.f__law_take A.d__law_take ["rows", "wide"] spLtk := by
  refine T.F__law_take.ok sc__law_take (fun vs H Q E h => ?_) (fun cdv B outer s H vs Q E hr h => ?_)
  · obtain ⟨d, R, w, zs, rfl, _⟩ := h
    rfl
  · obtain ⟨d, R, w, zs, rfl, hw, hR, hp, hl, hW, hH, q⟩ := h
    have nd := sc__law_take.nd
    have hu := hr.units
    refine ⟨_, (pss_cons (ps_set (i := 2) nd rfl (Or.inl rfl) (pe_ix (r := rIxL K) ix_list (pe_ix (r := rIxL K) ix_list (pv 0) pe_int (fun _ _ => rfl)) pe_int (fun _ _ => rfl)))
      (pss_cons (ps_set (i := 3) nd rfl (Or.inl rfl) (pe_bm0 PySem.F.plainAttrs_list PySem.F.slot_list_pop PySem.F.type_list_pop mt_pop (pv 0)))
      (C8.pss_cut (ps_if (pt_cmpR (op_neD hu) (pv 0) (pe_lst pa_nil) (nomark _)) (pss_cons (ps_asg (pv 3) (pg_sub (pv 0) pe_int set_list))
      (pss_one (ps_expr (pe_call (ok_ldn T) (hr.mono (by decide)) (by rfl) T.m__law_down T.F__law_down.kp (b_ldn T) .nil pass0 (pa_cons (pv 0) (pa_cons pe_int (pa_cons (pv 1) pa_nil))))))) pss_nil)
      (pss_one (ps_ret (pv 2)))))), ?_⟩
    refine ⟨_, rfl, R, _, _, _, rfl, rfl, SqL.of hR.a, rat (i := 0) hp, _, _, _, _, rfl, rfl, SqL.of (hR.at_ hp), rfl, ?_⟩
    refine ⟨_, rfl, .inl ⟨rfl, _, SqL.of hR.a⟩, R, _, _, rfl, rfl, hR.a, ref_last hp, ?_⟩
    rw [ref_drop]
    have hdl : zs.dropLast.length = zs.length - 1 := List.length_dropLast
    have hlm : zs.getLastD z0 ∈ zs := lastD_mem z0 hp
    have r1 : Rows d (upd H R (.lst (zs.dropLast.map fun z => V.ref z.1))) R zs.dropLast := hR.set fun z hz => List.dropLast_sublist zs |>.subset hz
    have b1 : But R H (upd H R (.lst (zs.dropLast.map fun z => V.ref z.1))) := But.put _
    have w1 : WordsZ zs.dropLast := fun z hz => hW z (List.dropLast_sublist zs |>.subset hz)
    obtain ⟨g1, g2, g3⟩ := hR.it _ hlm
    have g4 : upd H R (.lst (zs.dropLast.map fun z => V.ref z.1)) (zs.getLastD z0).1 = _ := (upd_ne g2).trans g3
    generalize upd H R (.lst (zs.dropLast.map fun z => V.ref z.1)) = H1 at r1 b1 g4
    refine ⟨fun σ' H' => σ' = [some (.ref R), some (.int w), some (.str (zs.getD 0 z0).2.2), some (.ref (zs.getLastD z0).1)] ∧ But R H H' ∧ Rows d H' R (drpG z0 w (kz zs) 0 zs), ?_, ?_⟩
    · refine ⟨_, rfl, Nat.zero_le _, fun e0 ne0 => ?_⟩
      have s2 := Same.up (o := .lst []) ne0
      have r2 := r1.same s2
      have b2 := b1.trans' (But.same s2)
      have e2 : upd H1 e0 (.lst []) e0 = _ := upd_same
      have g5 := s2 _ _ g4
      generalize upd H1 e0 (.lst []) = H2 at r2 b2 e2 g5
      refine ⟨.list (zs.dropLast.map rowD), .list [], .lst (SqL.of r2.a) (rows_dp _ fun z hz => (r2.it z hz).2.2), .lst (SqL.of e2) .nil, rows_sh w1.lay, rows_sh (zs := []) (fun z hz => nomatch hz), _, rfl, ?_⟩
      rw [rows_emp]
      by_cases h2 : 2 ≤ zs.length
      · refine ite_b (c := true) (by rw [decide_eq_false (fun z => by rw [z] at hdl; simp at hdl; omega)]; rfl) (iteT ?_)
        refine ⟨_, rfl, _, rfl, R, _, _, 0, rfl, rfl, r2.a, ixN_nat (p := 0) (by rw [List.length_map]; omega), ?_⟩
        rw [set_ref]
        have r3 : Rows d (upd H2 R (.lst ((zs.dropLast.set 0 (zs.getLastD z0)).map fun z => V.ref z.1))) R (zs.dropLast.set 0 (zs.getLastD z0)) := by
          refine ⟨r2.nd, upd_same, fun z hz => ?_⟩
          rcases List.mem_or_eq_of_mem_set hz with h | h
          · obtain ⟨h1, h2, h3⟩ := r2.it z h
            exact ⟨h1, h2, by rw [upd_ne h2]; exact h3⟩
          · rw [h]
            exact ⟨g1, g2, by rw [upd_ne g2]; exact g5⟩
        have b3 := b2.trans' (But.put (H := H2) (.lst ((zs.dropLast.set 0 (zs.getLastD z0)).map fun z => V.ref z.1)))
        generalize upd H2 R (.lst ((zs.dropLast.set 0 (zs.getLastD z0)).map fun z => V.ref z.1)) = H3 at r3 b3
        refine ⟨_, rfl, _, rfl, d, R, (0 : Nat), w, _, rfl, hw, r3, by rw [List.length_set]; omega, by rw [List.length_set]; omega, fun H4 b4 r4 => ⟨rfl, b3.trans' b4, ?_⟩⟩
        have e5 := take_path hw.1 (ks := kz zs) (by rw [kz_len]; exact h2) hH
        unfold drpG setG
        rw [if_pos (by omega), ← e5]
        rw [kz_set, kz_drop, ← kz_last, List.length_set, hdl] at r4
        rw [List.length_dropLast, kz_len]
        exact r4
      · refine ite_b (c := false) (by rw [decide_eq_true (List.length_eq_zero_iff.mp (by omega))]; rfl) (iteF ⟨rfl, b2, ?_⟩)
        unfold drpG
        rw [if_neg (by omega)]
        exact r2
    rintro σ' H2 ⟨rfl, b2, r2⟩
    exact ⟨_, rfl, q H2 b2 r2⟩
theorem b_ltk (T : Tx K mg A) : L2.Binds K A.d__law_take ["rows", "wide"] [] := T.F__law_take.binds fun _ _ _ _ _ _ us hl => match us, hl with | [_, _], _ => rfl
def spLchg : Sp := fun vs H Q _ => ∃ (d R i pa w : Nat) (k : Int) (n : Str) (zs : List Zr), vs = [.ref R, .int i, .ref pa, .int w] ∧ (1 ≤ w ∧ w ≤ 4) ∧ Rows d H R zs ∧ i < zs.length ∧ zs.length ≤ 12 ∧ pa ≠ d ∧ pa ≠ R ∧ H pa = some (.lst [.int k, .str n]) ∧
  ∀ H', But R H H' → Rows d H' R (setG z0 w (kz zs) i k (pa, (k, n)) zs) → Q (.int (lastW (setP w (kz zs) i k) : Nat)) H'
theorem ok_lchg (T : Tx K mg A) : FnOk P w K mg base CX0 2 A.f__law_change A.d__law_change ["rows", "place", "pair", "wide"] spLchg := by
  refine T.F__law_change.ok sc__law_change (fun vs H Q E h => ?_) (fun cdv B outer s H vs Q E hr h => ?_)
  · obtain ⟨d, R, i, pa, w, k, n, zs, rfl, _⟩ := h
    rfl
  · obtain ⟨d, R, i, pa, w, k, n, zs, rfl, hw, hR, hi, hl, hpd, hpR, hpa, q⟩ := h
    have nd := sc__law_change.nd
    refine ⟨_, (pss_cons (ps_set (i := 4) nd rfl (Or.inl rfl) (pe_ix (r := rIxL K) ix_list (pe_ix (r := rIxL K) ix_list (pv 0) (pv 1) (fun _ _ => rfl)) pe_int (fun _ _ => rfl)))
      (pss_cons (ps_asg (pv 2) (pg_sub (pv 0) (pv 1) set_list))
      (pss_one (ps_ret (pe_ifExp (pt_cmpR op_gt (pe_ix (r := rIxL K) ix_list (pv 2) pe_int (fun _ _ => rfl)) (pv 4) (nomark _)) (pe_call (ok_ldn T) (hr.mono (by decide)) (by rfl) T.m__law_down T.F__law_down.kp (b_ldn T) .nil pass0 (pa_cons (pv 0) (pa_cons (pv 1) (pa_cons (pv 3) pa_nil)))) (pe_call (ok_lup T) (hr.mono (by decide)) (by rfl) T.m__law_up T.F__law_up.kp (b_lup T) .nil pass0 (pa_cons (pv 0) (pa_cons (pv 1) (pa_cons (pv 3) pa_nil))))))))), ?_⟩
    refine ⟨_, rfl, _, rfl, R, _, _, _, rfl, rfl, SqL.of hR.a, rat hi, _, _, _, _, rfl, rfl, SqL.of (hR.at_ hi), rfl, ?_⟩
    refine ⟨_, rfl, _, rfl, _, rfl, R, _, _, i, rfl, rfl, hR.a, ixN_nat (by rw [List.length_map]; exact hi), ?_⟩
    have e1 : (zs.map fun z => V.ref z.1).set i (V.ref pa) = (zs.set i (pa, (k, n))).map fun z => V.ref z.1 := set_ref zs i (pa, (k, n))
    rw [e1]
    have r3 : Rows d (upd H R (.lst ((zs.set i (pa, (k, n))).map fun z => V.ref z.1))) R (zs.set i (pa, (k, n))) := by
      refine ⟨hR.nd, upd_same, fun z hz => ?_⟩
      rcases List.mem_or_eq_of_mem_set hz with h | h
      · obtain ⟨h1, h2, h3⟩ := hR.it z h
        exact ⟨h1, h2, by rw [upd_ne h2]; exact h3⟩
      · rw [h]
        exact ⟨hpd, hpR, by rw [upd_ne hpR]; exact hpa⟩
    have b3 : But R H (upd H R (.lst ((zs.set i (pa, (k, n))).map fun z => V.ref z.1))) := But.put _
    have p3 : upd H R (.lst ((zs.set i (pa, (k, n))).map fun z => V.ref z.1)) pa = _ := (upd_ne hpR).trans hpa
    generalize upd H R (.lst ((zs.set i (pa, (k, n))).map fun z => V.ref z.1)) = H3 at r3 b3 p3
    refine ⟨_, rfl, pa, _, _, _, rfl, rfl, SqL.of p3, rfl, _, rfl, _, _, rfl, rfl, _, rfl, ?_⟩
    unfold setG setP at q
    by_cases hk : keyAt (kz zs) i < k
    · rw [decide_eq_true (show k > keyAt (kz zs) i from hk)]
      rw [if_pos hk] at q
      refine iteT ⟨_, rfl, _, rfl, _, rfl, d, R, i, w, _, rfl, hw, r3, by rw [List.length_set]; exact hi, by rw [List.length_set]; exact hl, fun H4 b4 r4 => ?_⟩
      rw [kz_set, List.length_set, ← kz_len] at r4 ⊢
      exact q H4 (b3.trans' b4) r4
    · rw [decide_eq_false (show ¬ k > keyAt (kz zs) i from hk)]
      rw [if_neg hk] at q
      refine iteF ⟨_, rfl, _, rfl, _, rfl, d, R, i, w, _, rfl, hw, r3, by rw [List.length_set]; exact hi, by rw [List.length_set]; exact hl, fun H4 b4 r4 => ?_⟩
      rw [kz_set] at r4 ⊢
      exact q H4 (b3.trans' b4) r4
theorem b_lchg (T : Tx K mg A) : L2.Binds K A.d__law_change ["rows", "place", "pair", "wide"] [] := T.F__law_change.binds fun _ _ _ _ _ _ us hl => match us, hl with | [_, _, _, _], _ => rfl
def spLdrp : Sp := fun vs H Q _ => ∃ (d R i w : Nat) (zs : List Zr), vs = [.ref R, .int i, .int w] ∧ (1 ≤ w ∧ w ≤ 4) ∧ Rows d H R zs ∧ i < zs.length ∧ zs.length ≤ 12 ∧
  ∀ H', But R H H' → Rows d H' R (drpG z0 w (kz zs) i zs) → Q (.int (keyAt (kz zs) i)) H'
theorem ok_ldrp (T : Tx K mg A) : FnOk P w K mg base CX0 3 A.f__law_drop A.d__law_drop ["rows", "place", "wide"] spLdrp := by
  refine T.F__law_drop.ok sc__law_drop (fun vs H Q E h => ?_) (fun cdv B outer s H vs Q E hr h => ?_)
  · obtain ⟨d, R, i, w, zs, rfl, _⟩ := h
    rfl
  · obtain ⟨d, R, i, w, zs, rfl, hw, hR, hi, hl, q⟩ := h
    have nd := sc__law_drop.nd
    refine ⟨_, (pss_cons (ps_par (i := 3) (j := 4) rfl nd rfl rfl (by decide) rfl rfl (pa_cons (pe_ix (r := rIxL K) ix_list (pe_ix (r := rIxL K) ix_list (pv 0) (pv 1) (fun _ _ => rfl)) pe_int (fun _ _ => rfl)) (pa_cons (pe_bm0 PySem.F.plainAttrs_list PySem.F.slot_list_pop PySem.F.type_list_pop mt_pop (pv 0)) pa_nil)) rfl)
      (C8.pss_cut (ps_if (pt_cmpR op_lt (pv 1) (pe_callB (r := rLn K) call_len_seq (by rfl) T.g_len PySem.boot_len (pa_cons (pv 0) pa_nil)) (nomark _)) (pss_one (ps_expr (pe_call (ok_lchg T) (hr.mono (by decide)) (by rfl) T.m__law_change T.F__law_change.kp (b_lchg T) .nil pass0 (pa_cons (pv 0) (pa_cons (pv 1) (pa_cons (pv 4) (pa_cons (pv 2) pa_nil))))))) pss_nil)
      (pss_one (ps_ret (pv 3))))), ?_⟩
    have hp : 0 < zs.length := by omega
    refine ⟨_, rfl, _, rfl, R, _, _, _, rfl, rfl, SqL.of hR.a, rat hi, _, _, _, _, rfl, rfl, SqL.of (hR.at_ hi), rfl, ?_⟩
    refine ⟨_, rfl, .inl ⟨rfl, _, SqL.of hR.a⟩, R, _, _, rfl, rfl, hR.a, ref_last hp, ?_⟩
    rw [ref_drop]
    have hdl : zs.dropLast.length = zs.length - 1 := List.length_dropLast
    have hlm : zs.getLastD z0 ∈ zs := lastD_mem z0 hp
    have r1 : Rows d (upd H R (.lst (zs.dropLast.map fun z => V.ref z.1))) R zs.dropLast := hR.set fun z hz => List.dropLast_sublist zs |>.subset hz
    have b1 : But R H (upd H R (.lst (zs.dropLast.map fun z => V.ref z.1))) := But.put _
    obtain ⟨g1, g2, g3⟩ := hR.it _ hlm
    have g4 : upd H R (.lst (zs.dropLast.map fun z => V.ref z.1)) (zs.getLastD z0).1 = _ := (upd_ne g2).trans g3
    generalize upd H R (.lst (zs.dropLast.map fun z => V.ref z.1)) = H1 at r1 b1 g4
    refine ⟨_, _, rfl, ?_⟩
    refine ⟨fun σ' H' => σ' = [some (.ref R), some (.int i), some (.int w), some (.int (keyAt (kz zs) i)), some (.ref (zs.getLastD z0).1)] ∧ But R H H' ∧ Rows d H' R (drpG z0 w (kz zs) i zs), ?_, ?_⟩
    · refine ⟨_, rfl, _, rfl, R, _, rfl, .inl (SqL.of r1.a), _, _, rfl, rfl, _, rfl, ?_⟩
      rw [List.length_map, hdl]
      unfold drpG
      by_cases hlt : i + 1 < zs.length
      · rw [decide_eq_true (show ((i : Nat) : Int) < ((zs.length - 1 : Nat) : Int) by omega), if_pos hlt]
        refine iteT ⟨_, rfl, _, rfl, _, rfl, _, rfl, d, R, i, (zs.getLastD z0).1, w, _, _, _, rfl, hw, r1, by omega, by omega, g1, g2, g4, fun H4 b4 r4 => ⟨rfl, b1.trans' b4, ?_⟩⟩
        rw [kz_drop] at r4
        rw [kz_last]
        exact r4
      · rw [decide_eq_false (show ¬ ((i : Nat) : Int) < ((zs.length - 1 : Nat) : Int) by omega), if_neg hlt]
        exact iteF ⟨rfl, b1, r1⟩
    rintro σ' H2 ⟨rfl, b2, r2⟩
    exact ⟨_, rfl, q H2 b2 r2⟩
theorem b_ldrp (T : Tx K mg A) : L2.Binds K A.d__law_drop ["rows", "place", "wide"] [] := T.F__law_drop.binds fun _ _ _ _ _ _ us hl => match us, hl with | [_, _, _], _ => rfl
theorem str_deq (a b : Str) : decide (V.str a = V.str b) = decide (a = b) := by
  by_cases h : a = b
  · rw [decide_eq_true h, decide_eq_true (by rw [h])]
  · rw [decide_eq_false h, decide_eq_false fun z => h (by injection z)]
theorem setP_lt {w : Nat} (hw : 1 ≤ w) {ks : List Int} {i : Nat} (hi : i < ks.length) (k : Int) : ∀ x ∈ setP w ks i k, x < ks.length := fun x h => by
  unfold setP at h
  split at h
  · exact dnW_lt hw 20 _ _ x hi h
  · have := upW_le w 20 _ _ x h
    omega
/-- no key of a child is less -/
def goodAt (n w : Nat) (ks : List Int) (p : Nat) : Prop := ∀ c ∈ kidL n w p, keyAt ks p ≤ keyAt ks c
def GoodFrom (n w : Nat) (ks : List Int) (i : Nat) : Prop := ∀ p, i ≤ p → p < n → goodAt n w ks p
theorem down_good {n w i : Nat} (hw : 1 ≤ w) : ∀ (f : Nat) (ks : List Int) (cur : Nat) (way : List Nat) (lk : Nat), ks.length = n → i ≤ cur → cur < n → n - cur ≤ f →
    (∀ p, i ≤ p → p < n → p ≠ cur → goodAt n w ks p) → (∀ q, i ≤ q → q < n → cur ∈ kidL n w q → ∀ c ∈ kidL n w cur, keyAt ks q ≤ keyAt ks c) → GoodFrom n w (goDown n w f ks cur way lk).1 i
  | 0, ks, cur, way, lk, hl, hi, hc, hf, g, up => absurd hf (by omega)
  | f + 1, ks, cur, way, lk, hl, hi, hc, hf, g, up => by
    by_cases h0 : kidL n w cur = []
    · rw [goDown_leaf h0]
      intro p h1 h2
      by_cases e : p = cur
      · subst e
        intro c hc
        rw [h0] at hc
        cases hc
      · exact g p h1 h2 e
    · generalize eb : leastC ks (kidL n w cur) = b
      have hm : b ∈ kidL n w cur := eb ▸ least_mem h0
      have hle : ∀ c ∈ kidL n w cur, keyAt ks b ≤ keyAt ks c := fun c hc => eb ▸ least_le hc
      obtain ⟨b1, b2⟩ := kid_in hw hm
      by_cases hlt : keyAt ks b < keyAt ks cur
      · rw [goDown_go h0 eb hlt]
        have ka : cur < ks.length := by omega
        have kb : b < ks.length := by omega
        refine down_good hw f _ b _ _ (by rw [swp_len]; exact hl) (by omega) b2 (by omega) (fun p h1 h2 hp c hcp => ?_) (fun q h1 h2 hq c hcb => ?_)
        · rw [keyAt_swp ka kb, keyAt_swp ka kb, if_neg hp]
          obtain ⟨m1, m2, m3⟩ := mem_kid.mp hcp
          by_cases e : p = cur
          · subst e
            rw [if_pos rfl]
            by_cases ec : c = b
            · rw [if_pos ec]
              omega
            · have := (kid_in hw hcp).1
              rw [if_neg ec, if_neg (by omega)]
              exact hle c hcp
          · rw [if_neg e]
            by_cases ec : c = b
            · subst ec
              exact absurd ((mem_kid.mp hm).2.2.symm.trans m3) (fun z => e z.symm)
            · rw [if_neg ec]
              by_cases ec2 : c = cur
              · subst ec2
                rw [if_pos rfl]
                exact up p h1 h2 hcp b hm
              · rw [if_neg ec2]
                exact g p h1 h2 e c hcp
        · have eq : q = cur := (mem_kid.mp hq).2.2.symm.trans (mem_kid.mp hm).2.2
          subst eq
          have := (kid_in hw hcb).1
          rw [keyAt_swp ka kb, keyAt_swp ka kb, if_neg (by omega), if_pos rfl, if_neg (by omega), if_neg (by omega)]
          exact g b (by omega) b2 (by omega) c hcb
      · rw [goDown_stay h0 (by rw [eb]; exact hlt)]
        intro p h1 h2
        by_cases e : p = cur
        · subst e
          intro c hc
          exact Int.le_trans (Int.not_lt.mp hlt) (hle c hc)
        · exact g p h1 h2 e
end
end Tw

set_option Elab.async false
set_option linter.all false
set_option maxRecDepth 100000
set_option maxHeartbeats 2000000
namespace Tw
open PySem PySem.Spec PyProof.Rows L2
section
variable {P : Program} {w : World} {K : PySem.W.Frag} {mg : Str → Option Value} {base : Heap} {A : Ad}
open LamX (ExtN Tabs TabS)
theorem good_heapL {n w : Nat} {ks : List Int} (h : GoodFrom n w ks 0) : HeapL n w ks := fun c h1 h2 =>
  h ((c - 1) / w) (Nat.zero_le _) (by have := par_lt (w := w) h1; omega) c (mem_kid.mpr ⟨h1, h2, rfl⟩)
theorem set_heap {w : Nat} (hw : 1 ≤ w) {ks : List Int} {i : Nat} {k : Int} (hl : ks.length ≤ 12) (hi : i < ks.length) (h : HeapL ks.length w ks) : HeapL ks.length w (setG 0 w ks i k k ks) := by
  have hl2 : (ks.set i k).length = ks.length := List.length_set
  unfold setG setP
  by_cases hlt : keyAt ks i < k
  · rw [if_pos hlt, ← (goDown_dnW ks.length w 20 (ks.set i k) i [] 0).1]
    refine good_heapL (down_good hw 20 _ i _ _ hl2 (Nat.zero_le _) hi (by omega) (fun p _ hp hpi c hc => ?_) (fun q _ _ hq c hc => ?_))
    · obtain ⟨c1, c2, c3⟩ := mem_kid.mp hc
      have := h c c1 c2
      rw [c3] at this
      rw [key_set hi, key_set hi, if_neg hpi]
      split
      · rename_i e
        rw [e] at this
        omega
      · exact this
    · obtain ⟨c1, c2, c3⟩ := mem_kid.mp hc
      obtain ⟨d1, d2, d3⟩ := mem_kid.mp hq
      have a1 := h c c1 c2
      have a2 := h i d1 d2
      rw [c3] at a1
      rw [d3] at a2
      have n1 := (kid_in hw hc).1
      have n2 := (kid_in hw hq).1
      rw [key_set hi, key_set hi, if_neg (by omega), if_neg (by omega)]
      omega
  · rw [if_neg hlt, ← (goUp_upW w 20 (ks.set i k) i [] 0).1]
    refine up_good 20 _ i _ _ hl2 hi (by omega) (fun c c1 c2 hc => ?_) (fun c c1 c2 hc h0 => ?_)
    · have := h c c1 c2
      rw [key_set hi, key_set hi, if_neg hc]
      split
      · rename_i e
        rw [e] at this
        omega
      · exact this
    · have a1 := h c c1 c2
      have a2 := h i (by omega) hi
      have n1 := par_lt (w := w) c1
      have n2 := par_lt (w := w) (c := i) (by omega)
      rw [hc] at a1
      rw [key_set hi, key_set hi, if_neg (by omega), if_neg (by omega)]
      omega
theorem good_set {w : Nat} (hw : 1 ≤ w) {zs : List Zr} {i : Nat} (hi : i < zs.length) {x : Zr} (h1 : zs.length ≤ 12) (h2 : WordsZ zs) (h3 : (names (prs (zs.set i x))).Nodup) (h4 : KeysB (prs zs)) (h5 : HeapL (kz zs).length w (kz zs)) (hx : x.2.2 ∈ wordsL) (hk : -1000000000 ≤ x.2.1 ∧ x.2.1 ≤ 1000000000) : GoodZ w (setG z0 w (kz zs) i x.2.1 x zs) := by
  have hi2 : i < (kz zs).length := by rw [kz_len]; exact hi
  have e : kz (setG z0 w (kz zs) i x.2.1 x zs) = setG 0 w (kz zs) i x.2.1 x.2.1 (kz zs) := by
    unfold setG
    rw [kz_mv, kz_set]
  refine good_perm (mvG_perm z0 _ _ fun y hy => ?_) (by rw [List.length_set]; exact h1) ?_ h3 ?_ ?_
  · have := setP_lt hw hi2 x.2.1 y hy
    rw [kz_len] at this
    rw [List.length_set]
    exact this
  · intro z hz
    rcases List.mem_or_eq_of_mem_set hz with h | h
    · exact h2 z h
    · rw [h]
      exact hx
  · intro z hz
    obtain ⟨y, hy, rfl⟩ := List.mem_map.mp hz
    rcases List.mem_or_eq_of_mem_set hy with h | h
    · exact h4 _ (List.mem_map.mpr ⟨y, h, rfl⟩)
    · rw [h]
      exact hk
  · have e2 : (setG 0 w (kz zs) i x.2.1 x.2.1 (kz zs)).length = (kz zs).length := by
      unfold setG
      rw [mvG_len, List.length_set]
    rw [e, e2]
    exact set_heap hw (by rw [kz_len]; exact h1) hi2 h5
theorem GoodZ.chg {w : Nat} (hw : 1 ≤ w) {zs : List Zr} (g : GoodZ w zs) {i : Nat} {k : Int} {n : Str} {a : Addr} (hA : AtN (prs zs) i n) (hk : -1000000000 ≤ k ∧ k ≤ 1000000000) : GoodZ w (setG z0 w (kz zs) i k (a, (k, n)) zs) := by
  have hi : i < zs.length := by have := hA.lt; rw [prs_len] at this; exact this
  refine good_set (x := (a, (k, n))) hw hi g.len g.wd ?_ g.kb g.hp ?_ hk
  · have e : names (prs (zs.set i (a, (k, n)))) = names (prs zs) := by
      rw [show prs (zs.set i (a, (k, n))) = (prs zs).set i (k, n) from List.map_set, names_set]
      have e := hA.1
      have hi2 : i < (names (prs zs)).length := by rw [names_len, prs_len]; exact hi
      rw [List.getElem?_eq_getElem hi2] at e
      rw [← Option.some.inj e, List.set_getElem_self]
    rw [e]
    exact g.nd
  · have := hA.mem
    rw [names_prs] at this
    obtain ⟨y, hy, e⟩ := List.mem_map.mp this
    rw [← e]
    exact g.wd y hy
theorem nodup_set {α : Type} {l : List α} (h : l.Nodup) {v : α} (hv : v ∉ l) (i : Nat) : (l.set i v).Nodup := by
  refine List.pairwise_iff_getElem.mpr fun a b ha hb hab => ?_
  rw [List.length_set] at ha hb
  have hne := List.pairwise_iff_getElem.mp h a b ha hb hab
  rw [List.getElem_set, List.getElem_set]
  split
  · split
    · omega
    · exact fun z => hv (by rw [z]; exact List.getElem_mem hb)
  · split
    · exact fun z => hv (by rw [← z]; exact List.getElem_mem ha)
    · exact hne
theorem GoodZ.drop {w : Nat} (hw : 1 ≤ w) {zs : List Zr} (g : GoodZ w zs) {i : Nat} (hi : i < zs.length) : GoodZ w (drpG z0 w (kz zs) i zs) := by
  have hdl : zs.dropLast.length = zs.length - 1 := List.length_dropLast
  have hsub : ∀ z ∈ zs.dropLast, z ∈ zs := fun z hz => List.dropLast_sublist zs |>.subset hz
  have w1 : WordsZ zs.dropLast := fun z hz => g.wd z (hsub z hz)
  have k1 : KeysB (prs zs.dropLast) := fun z hz => by
    obtain ⟨y, hy, rfl⟩ := List.mem_map.mp hz
    exact g.kb _ (List.mem_map.mpr ⟨y, hsub y hy, rfl⟩)
  have n0 := g.nd
  rw [names_prs] at n0
  have n1 : (zs.dropLast.map fun z => z.2.2).Nodup := (List.Sublist.map _ (List.dropLast_sublist zs)).nodup n0
  have h1 : HeapL (kz zs.dropLast).length w (kz zs.dropLast) := by rw [kz_drop]; exact drop_heapL g.hp
  unfold drpG
  split
  · rename_i hlt
    have hlm : zs.getLastD z0 ∈ zs := lastD_mem z0 (by omega)
    rw [kz_last, ← kz_drop]
    refine good_set hw (by omega) (by have := g.len; omega) w1 ?_ k1 h1 (g.wd _ hlm) (g.kb _ (List.mem_map.mpr ⟨_, hlm, rfl⟩))
    rw [names_prs, List.map_set]
    refine nodup_set n1 (fun hm => ?_) i
    have e : zs = zs.dropLast ++ [zs.getLastD z0] := by
      have hne : zs ≠ [] := List.ne_nil_of_length_pos (by omega)
      rw [List.getLastD_eq_getLast?, List.getLast?_eq_some_getLast hne, Option.getD_some, List.dropLast_concat_getLast]
    rw [e, List.map_append, List.nodup_append] at n0
    exact n0.2.2 _ hm _ (by simp) rfl
  · exact ⟨by have := g.len; omega, w1, by rw [names_prs]; exact n1, k1, h1⟩
theorem TreeAt.but {C d : Addr} {H H' : Hp} {p n w : Nat} {xs : List V} (h : TreeAt C H p n w) (s : But d H H') (hd : H d = some (.lst xs)) : TreeAt C H' p n w := by
  obtain ⟨dx, t, a, b⟩ := h.ob
  exact ⟨⟨dx, t, s _ _ (ne_of a hd (by intro z; cases z)) a, s _ _ (ne_of b hd (by intro z; cases z)) b⟩, h.hn, h.hw⟩
theorem Fz.but {R : Addr} {H H' : Hp} {xs : List V} (hR : H R = some (.lst xs)) (b : But R H H') : Fz H H' := fun c o h _ _ n3 => b c o (fun z => by rw [z, hR] at h; exact n3 _ (Option.some.inj h).symm) h
theorem QAt.but {C : Addr} {H H' : Hp} {p w t u d b R : Nat} {ps : List Pr} {es : List (Deed × List Pr)} {xs : List V} (h : QAt C H p w t u d b ps es) (hR : H R = some (.lst xs)) (hn : R ≠ d) (bt : But R H H') : QAt C H' p w t u d b ps es := by
  obtain ⟨dx, fs, g⟩ := h.ins
  exact h.fz (Fz.but hR bt) (fun o e => bt _ _ (fun z => by rw [z, hR] at g; cases g) e) (fun o e => bt _ _ (fun z => hn z.symm) e)
def spLdone (A : Ad) : Sp := fun vs H Q _ => ∃ (p w t u d b R D : Nat) (zs : List Zr) (es : List (Deed × List Pr)) (de : Deed), vs = [.ref p, .ref R, .ref D, .int w] ∧ QAt A.CJ H p w t u d b (prs zs) es ∧ Rows d H R zs ∧ H D = some (.tup (dvs de)) ∧ (1 ≤ w ∧ w ≤ 4) ∧ GoodZ w zs ∧ ValidD zs de ∧ es.length ≤ 900 ∧ Tabs (TT A) H ∧
  ∀ (H' : Hp) (zs' : List Zr) (t' u' : Addr), Fr3 p d R H H' → Tabs (TT A) H' → QAt A.CJ H' p w t' u' d b (prs zs') (es ++ [(de, prs zs)]) → Rows d H' R zs' → GoodZ w zs' → Q (.bl true) H'
theorem prs_mv (l : List Nat) (zs : List Zr) : prs (mvG z0 l zs) = mvG d0 l (prs zs) := mvG_map (fun z : Zr => z.2) z0 l zs
theorem prs_put (zs : List Zr) (w : Nat) (k : Int) (n : Str) (a : Addr) : prs (putG z0 w (kz zs) k (a, (k, n)) zs) = putG d0 w (keys (prs zs)) k (k, n) (prs zs) := by
  unfold putG
  rw [prs_mv]
  unfold prs
  rw [List.map_append]
  rfl
theorem prs_set (zs : List Zr) (w i : Nat) (k : Int) (x : Zr) (ks : List Int) : prs (setG z0 w ks i k x zs) = setG d0 w ks i k x.2 (prs zs) := by
  unfold setG
  rw [prs_mv]
  unfold prs
  rw [List.map_set]
theorem prs_drp (zs : List Zr) (w i : Nat) : prs (drpG z0 w (kz zs) i zs) = drpG d0 w (keys (prs zs)) i (prs zs) := by
  unfold drpG
  rw [prs_len]
  have e1 : prs zs.dropLast = (prs zs).dropLast := List.map_dropLast ..
  have e2 : (prs zs).getLastD d0 = (zs.getLastD z0).2 := lastD_map (fun z : Zr => z.2) z0 zs
  split
  · rw [prs_set, e1, e2]
    rfl
  · exact e1
theorem ok_ldone (T : Tx K mg A) (TB : LamX.TabB base mg A.c_least_child A.P_least_child) : FnOk P w K mg base CX0 11 A.f__law_done A.d__law_done ["queue", "rows", "deed", "wide"] (spLdone A) := by
  refine T.F__law_done.ok sc__law_done (fun vs H Q E h => ?_) (fun cdv B outer s H vs Q E hr h => ?_)
  · obtain ⟨p, w, t, u, d, b, R, D, zs, es, de, rfl, _⟩ := h
    rfl
  · obtain ⟨p, w, t, u, d, b, R, D, zs, es, de, rfl, hQ, hR, hD, hw, g, hv, hel, hT, q⟩ := h
    have nd := sc__law_done.nd
    refine ⟨_, (C8.pss_cut (ps_if (pt_cmpR op_eq (pe_ix (r := rIxT K) ix_tup (pv 2) pe_int (fun _ _ => rfl)) pe_str (nomark _)) (pss_one (ps_ret (pe_cmpR op_eq (pe_meth (pv 0) T.cTJ T.M_j_put (ok_jput T TB) (hr.mono (by decide)) (b_jput T) .nil pass0 (pa_cons (pe_ix (r := rIxT K) ix_tup (pv 2) pe_int (fun _ _ => rfl)) (pa_cons (pe_ix (r := rIxT K) ix_tup (pv 2) pe_int (fun _ _ => rfl)) pa_nil))) (pe_call (ok_lput T) (hr.mono (by decide)) (by rfl) T.m__law_put T.F__law_put.kp (b_lput T) .nil pass0 (pa_cons (pv 1) (pa_cons (pe_ix (r := rIxT K) ix_tup (pv 2) pe_int (fun _ _ => rfl)) (pa_cons (pe_ix (r := rIxT K) ix_tup (pv 2) pe_int (fun _ _ => rfl)) (pa_cons (pv 3) pa_nil))))) (nomark _)))) pss_nil)
      (C8.pss_cut (ps_if (pt_cmpR op_eq (pe_ix (r := rIxT K) ix_tup (pv 2) pe_int (fun _ _ => rfl)) pe_str (nomark _)) (pss_one (ps_ret (pe_cmpR op_eq (pe_meth0 (pv 0) T.cTJ T.M_j_take (ok_jtake T TB) (hr.mono (by decide)) (b_jtake T) .nil pass0) (pe_call (ok_ltk T) (hr.mono (by decide)) (by rfl) T.m__law_take T.F__law_take.kp (b_ltk T) .nil pass0 (pa_cons (pv 1) (pa_cons (pv 3) pa_nil))) (nomark _)))) pss_nil)
      (pss_cons (ps_set (i := 4) nd rfl (Or.inl rfl) (pe_bm PySem.F.plainAttrs_list PySem.F.slot_list_index PySem.F.type_list_index (r := rIndex K) mt_index (pe_lc (own := [("pair", 5)]) (g := gName 5) (tt := tYes) rfl nd (pi_list (pv 1)) (blkOk_by (own := [("pair", 5)]) (N := ["queue", "rows", "deed", "wide", "place", "pair"]) (sc := defScope s__law_done) (by decide +kernel)) (fun _ _ _ _ _ => pg_name (i := 5) nd rfl (Or.inl rfl)) (fun _ _ _ _ _ => pts_nil) (fun _ _ _ _ _ => (pe_ix (r := rIxL K) ix_list (pv 5) pe_int (fun _ _ => rfl)))) (pa_cons (pe_ix (r := rIxT K) ix_tup (pv 2) pe_int (fun _ _ => rfl)) pa_nil)))
      (C8.pss_cut (ps_if (pt_cmpR op_eq (pe_ix (r := rIxT K) ix_tup (pv 2) pe_int (fun _ _ => rfl)) pe_str (nomark _)) (pss_one (ps_ret (pe_cmpR op_eq (pe_meth (pv 0) T.cTJ T.M_j_drop (ok_jdrop T TB) (hr.mono (by decide)) (b_jdrop T) .nil pass0 (pa_cons (pe_ix (r := rIxT K) ix_tup (pv 2) pe_int (fun _ _ => rfl)) pa_nil)) (pe_call (ok_ldrp T) (hr.mono (by decide)) (by rfl) T.m__law_drop T.F__law_drop.kp (b_ldrp T) .nil pass0 (pa_cons (pv 1) (pa_cons (pv 4) (pa_cons (pv 3) pa_nil)))) (nomark _)))) pss_nil)
      (pss_one (ps_ret (pe_cmpR op_eq (pe_meth (pv 0) T.cTJ T.M_j_change (ok_jchg T TB) (hr.mono (by decide)) (b_jchg T) .nil pass0 (pa_cons (pe_ix (r := rIxT K) ix_tup (pv 2) pe_int (fun _ _ => rfl)) (pa_cons (pe_ix (r := rIxT K) ix_tup (pv 2) pe_int (fun _ _ => rfl)) pa_nil))) (pe_call (ok_lchg T) (hr.mono (by decide)) (by rfl) T.m__law_change T.F__law_change.kp (b_lchg T) .nil pass0 (pa_cons (pv 1) (pa_cons (pv 4) (pa_cons (pe_lst (pa_cons (pe_ix (r := rIxT K) ix_tup (pv 2) pe_int (fun _ _ => rfl)) (pa_cons (pe_ix (r := rIxT K) ix_tup (pv 2) pe_int (fun _ _ => rfl)) pa_nil))) (pa_cons (pv 3) pa_nil))))) (nomark _)))))))), ?_⟩
    obtain ⟨dx, m, h1⟩ := id hQ.ob
    obtain ⟨ys, h4, h5⟩ := id hQ.dn
    have hpl : (prs zs).length = zs.length := prs_len zs
    have hl12 := g.len
    have hRp : R ≠ p := ne_of hR.a h1 (by intro z; cases z)
    have eq1 : decide (V.str "put" = V.str "put") = true := decide_eq_true rfl
    have eq2 : decide (V.str "take" = V.str "put") = false := by rw [str_deq]; decide +kernel
    have eq3 : decide (V.str "take" = V.str "take") = true := decide_eq_true rfl
    have eq4 : decide (V.str "drop" = V.str "put") = false := by rw [str_deq]; decide +kernel
    have eq5 : decide (V.str "drop" = V.str "take") = false := by rw [str_deq]; decide +kernel
    have eq6 : decide (V.str "drop" = V.str "drop") = true := decide_eq_true rfl
    have eq7 : decide (V.str "change" = V.str "put") = false := by rw [str_deq]; decide +kernel
    have eq8 : decide (V.str "change" = V.str "take") = false := by rw [str_deq]; decide +kernel
    have eq9 : decide (V.str "change" = V.str "drop") = false := by rw [str_deq]; decide +kernel
    have hD1 : ∀ H', Fr p d H H' → H' D = some (.tup (dvs de)) := fun H' f => f _ _ hD (fun _ z => nomatch z) (ne_of hD h1 (by intro z; cases z)) (ne_of hD h4 (by intro z; cases z))
    have done : ∀ (H1 H2 : Hp) (t1 u1 : Addr) (zs' : List Zr) (ps' : List Pr), Fr p d H H1 → Tabs (TT A) H1 → QAt A.CJ H1 p w t1 u1 d b ps' (es ++ [(de, prs zs)]) → But R H1 H2 → Rows d H2 R zs' → prs zs' = ps' → GoodZ w zs' → Q (.bl true) H2 := fun H1 H2 t1 u1 zs' ps' f T1 Q1 b2 r2 e g2 => by
      have r1 := hR.fr f h1
      exact q H2 zs' t1 u1 (Fr3.of f b2) (tabs_butL T1 r1.a b2) (by rw [e]; exact Q1.but r1.a hR.nd b2) r2 g2
    have place : ∀ (n : Str), n ∈ names (prs zs) → ∃ i, AtN (prs zs) i n := fun n hn => by
      obtain ⟨i, hi0, e⟩ := List.mem_iff_getElem.mp hn
      have hi : i < (prs zs).length := by have := hi0; rw [names_len] at this; exact this
      have := atN_of g.nd hi
      refine ⟨i, ?_⟩
      have e2 : ((prs zs).getD i d0).2 = n := by
        rw [← e, ← getD_at e0 hi0]
        exact (getD_mapG (fun z : Pr => z.2) d0 (prs zs) i).symm
      rw [e2] at this
      exact this
    have col : ∀ {H1 : Hp} {L : Nat → Hp → Prop}, Same H H1 → True := fun _ => trivial
    cases de with
    | put n k =>
      obtain ⟨hn, hnn, hk, hl⟩ := hv
      refine ⟨fun σ' H' => False, ?_, fun _ _ z => z.elim⟩
      refine ⟨_, rfl, D, _, _, _, rfl, rfl, SqT.of hD, rfl, rfl, _, rfl, ?_⟩
      rw [show decide (V.str (Str.ofString "put") = V.str (Str.ofString "put")) = true from eq1]
      refine iteT ⟨_, rfl, p, dx, _, rfl, h1, fdJ_no _ _ _ _ _ _ (by decide +kernel) (by decide +kernel) (by decide +kernel) (by decide +kernel) (by decide +kernel) (by decide +kernel), _, rfl, D, _, _, _, rfl, rfl, SqT.of hD, rfl, _, rfl, D, _, _, _, rfl, rfl, SqT.of hD, rfl, p, w, t, u, d, b, _, es, n, k, rfl, hQ, hw, hn, hnn, hk, by omega, g.kb, hel, hT, fun H1 t1 u1 f1 T1 Q1 => ?_⟩
      have hD2 := hD1 H1 f1
      have hd1 := Q1.dn
      obtain ⟨ys1, k4, k5⟩ := hd1
      refine ⟨_, rfl, _, rfl, D, _, _, _, rfl, rfl, SqT.of hD2, rfl, _, rfl, D, _, _, _, rfl, rfl, SqT.of hD2, rfl, _, rfl, d, R, w, k, n, zs, rfl, hw, hR.fr f1 h1, hl, ⟨_, k4⟩, fun H2 a b2 r2 => ⟨rfl, ?_⟩⟩
      show Q (.bl (decide (V.int (lastW (putP w (keys (prs zs)) k) : Nat) = V.int (lastW (putP w (kz zs) k) : Nat)))) H2
      rw [show kz zs = keys (prs zs) from rfl, decide_eq_true rfl]
      exact done H1 H2 t1 u1 _ _ f1 T1 Q1 b2 r2 (prs_put zs w k n a) (g.put hl hn hnn hk)
    | tak =>
      have hv : 0 < zs.length := hv
      refine ⟨fun σ' H' => σ' = [some (.ref p), some (.ref R), some (.ref D), some (.int w), none, none] ∧ H' = H, ?_, ?_⟩
      · refine ⟨_, rfl, D, _, _, _, rfl, rfl, SqT.of hD, rfl, rfl, _, rfl, ?_⟩
        rw [show decide (V.str (Str.ofString "take") = V.str (Str.ofString "put")) = false from eq2]
        exact iteF ⟨rfl, rfl⟩
      rintro σ' H' ⟨rfl, rfl⟩
      refine ⟨fun σ' H' => False, ?_, fun _ _ z => z.elim⟩
      refine ⟨_, rfl, D, _, _, _, rfl, rfl, SqT.of hD, rfl, rfl, _, rfl, ?_⟩
      rw [show decide (V.str (Str.ofString "take") = V.str (Str.ofString "take")) = true from eq3]
      refine iteT ⟨_, rfl, p, dx, _, rfl, h1, fdJ_no _ _ _ _ _ _ (by decide +kernel) (by decide +kernel) (by decide +kernel) (by decide +kernel) (by decide +kernel) (by decide +kernel), p, w, t, u, d, b, _, es, rfl, hQ, hw, by omega, by omega, g.kb, hel, hT, fun H1 t1 u1 f1 T1 Q1 => ?_⟩
      refine ⟨_, rfl, _, rfl, d, R, w, zs, rfl, hw, hR.fr f1 h1, hv, hl12, g.wd, g.hp, fun H2 b2 r2 => ⟨rfl, ?_⟩⟩
      have e : ((prs zs).getD 0 d0).2 = (zs.getD 0 z0).2.2 := congrArg (·.2) (getD_mapG (fun z : Zr => z.2) z0 zs 0)
      rw [e]
      rw [decide_eq_true rfl]
      exact done H1 H2 t1 u1 _ _ f1 T1 Q1 b2 r2 (prs_drp zs w 0) (g.drop hw.1 hv)
    | drp n =>
      obtain ⟨i, hA⟩ := place n hv
      have hi : i < zs.length := by have := hA.lt; omega
      refine ⟨fun σ' H' => σ' = [some (.ref p), some (.ref R), some (.ref D), some (.int w), none, none] ∧ H' = H, ?_, ?_⟩
      · refine ⟨_, rfl, D, _, _, _, rfl, rfl, SqT.of hD, rfl, rfl, _, rfl, ?_⟩
        rw [show decide (V.str (Str.ofString "drop") = V.str (Str.ofString "put")) = false from eq4]
        exact iteF ⟨rfl, rfl⟩
      rintro σ' H' ⟨rfl, rfl⟩
      refine ⟨fun σ' H0 => σ' = [some (.ref p), some (.ref R), some (.ref D), some (.int w), none, none] ∧ H0 = H', ?_, ?_⟩
      · refine ⟨_, rfl, D, _, _, _, rfl, rfl, SqT.of hD, rfl, rfl, _, rfl, ?_⟩
        rw [show decide (V.str (Str.ofString "drop") = V.str (Str.ofString "take")) = false from eq5]
        exact iteF ⟨rfl, rfl⟩
      rintro σ' H ⟨rfl, rfl⟩
      refine ⟨_, rfl, R, rfl, ⟨_, SqL.of hR.a⟩, fun L nL => ?_⟩
      refine lc_it (walk_list (xs := zs.map fun z => V.ref z.1)) (fun j H' => Acc H L (((zs.take j).map fun z => z.2.2).map V.str) H') (Acc.start nL) (fun j H' _ ac => ac.s.seq (SqL.of hR.a)) ?_ ?_
      · rintro j x H6 H7 hj ac ⟨rfl, ex⟩
        have hj2 : j < zs.length := by rw [List.length_map] at hj; exact hj
        obtain rfl : x = V.ref zs[j].1 := by
          rw [List.getElem?_map, List.getElem?_eq_getElem hj2] at ex
          exact (Option.some.inj ex).symm
        refine ⟨rfl, _, rfl, _, _, _, _, rfl, rfl, SqL.of ((hR.same ac.s).it _ (List.getElem_mem hj2)).2.2, rfl, _, ac.a, small1000 (by rw [List.length_map, List.length_map, List.length_take]; omega), ?_⟩
        rw [← List.take_append_getElem hj2, List.map_append, List.map_append]
        exact ac.push
      · intro H2 ac
        rw [List.length_map, List.take_length, ← names_prs] at ac
        have hD2 := ac.s _ _ hD
        refine ⟨.inl ⟨rfl, _, SqL.of ac.a⟩, _, rfl, D, _, _, _, rfl, rfl, SqT.of hD2, rfl, L, _, V.str n, i, V.str n, rfl, rfl, SqL.of ac.a, rfl, strs_flat _, by rw [List.getElem?_map, hA.1]; rfl, decide_eq_true rfl, fun mm z' hm e => ?_, ?_⟩
        · rw [List.getElem?_map] at e
          cases e3 : (names (prs zs))[mm]? with
          | none => rw [e3] at e; cases e
          | some y =>
            rw [e3] at e
            rw [← Option.some.inj e]
            exact decide_eq_false fun z => hA.2 mm hm (by rw [e3, z])
        have s2 := ac.s
        refine ⟨fun σ' H' => False, ?_, fun _ _ z => z.elim⟩
        refine ⟨_, rfl, D, _, _, _, rfl, rfl, SqT.of hD2, rfl, rfl, _, rfl, ?_⟩
        rw [show decide (V.str (Str.ofString "drop") = V.str (Str.ofString "drop")) = true from eq6]
        refine iteT ⟨_, rfl, p, dx, _, rfl, s2 _ _ h1, fdJ_no _ _ _ _ _ _ (by decide +kernel) (by decide +kernel) (by decide +kernel) (by decide +kernel) (by decide +kernel) (by decide +kernel), _, rfl, D, _, _, _, rfl, rfl, SqT.of hD2, rfl, p, w, t, u, d, b, i, _, es, n, rfl, hQ.same s2, hw, g.wd.prs, hA, by omega, g.kb, hel, hT.ext s2, fun H3 t1 u1 f1 T1 Q1 => ?_⟩
        have f3 := (Fr.same s2).trans f1
        refine ⟨_, rfl, _, rfl, _, rfl, d, R, i, w, zs, rfl, hw, hR.fr f3 h1, hi, hl12, fun H4 b2 r2 => ⟨rfl, ?_⟩⟩
        show Q (.bl (decide (V.int (keyAt (keys (prs zs)) i) = V.int (keyAt (kz zs) i)))) H4
        rw [show kz zs = keys (prs zs) from rfl, decide_eq_true rfl]
        exact done H3 H4 t1 u1 _ _ f3 T1 Q1 b2 r2 (prs_drp zs w i) (g.drop hw.1 hi)
    | chg n k =>
      obtain ⟨hn, hk⟩ := hv
      obtain ⟨i, hA⟩ := place n hn
      have hi : i < zs.length := by have := hA.lt; omega
      refine ⟨fun σ' H' => σ' = [some (.ref p), some (.ref R), some (.ref D), some (.int w), none, none] ∧ H' = H, ?_, ?_⟩
      · refine ⟨_, rfl, D, _, _, _, rfl, rfl, SqT.of hD, rfl, rfl, _, rfl, ?_⟩
        rw [show decide (V.str (Str.ofString "change") = V.str (Str.ofString "put")) = false from eq7]
        exact iteF ⟨rfl, rfl⟩
      rintro σ' H' ⟨rfl, rfl⟩
      refine ⟨fun σ' H0 => σ' = [some (.ref p), some (.ref R), some (.ref D), some (.int w), none, none] ∧ H0 = H', ?_, ?_⟩
      · refine ⟨_, rfl, D, _, _, _, rfl, rfl, SqT.of hD, rfl, rfl, _, rfl, ?_⟩
        rw [show decide (V.str (Str.ofString "change") = V.str (Str.ofString "take")) = false from eq8]
        exact iteF ⟨rfl, rfl⟩
      rintro σ' H ⟨rfl, rfl⟩
      refine ⟨_, rfl, R, rfl, ⟨_, SqL.of hR.a⟩, fun L nL => ?_⟩
      refine lc_it (walk_list (xs := zs.map fun z => V.ref z.1)) (fun j H' => Acc H L (((zs.take j).map fun z => z.2.2).map V.str) H') (Acc.start nL) (fun j H' _ ac => ac.s.seq (SqL.of hR.a)) ?_ ?_
      · rintro j x H6 H7 hj ac ⟨rfl, ex⟩
        have hj2 : j < zs.length := by rw [List.length_map] at hj; exact hj
        obtain rfl : x = V.ref zs[j].1 := by
          rw [List.getElem?_map, List.getElem?_eq_getElem hj2] at ex
          exact (Option.some.inj ex).symm
        refine ⟨rfl, _, rfl, _, _, _, _, rfl, rfl, SqL.of ((hR.same ac.s).it _ (List.getElem_mem hj2)).2.2, rfl, _, ac.a, small1000 (by rw [List.length_map, List.length_map, List.length_take]; omega), ?_⟩
        rw [← List.take_append_getElem hj2, List.map_append, List.map_append]
        exact ac.push
      · intro H2 ac
        rw [List.length_map, List.take_length, ← names_prs] at ac
        have hD2 := ac.s _ _ hD
        refine ⟨.inl ⟨rfl, _, SqL.of ac.a⟩, _, rfl, D, _, _, _, rfl, rfl, SqT.of hD2, rfl, L, _, V.str n, i, V.str n, rfl, rfl, SqL.of ac.a, rfl, strs_flat _, by rw [List.getElem?_map, hA.1]; rfl, decide_eq_true rfl, fun mm z' hm e => ?_, ?_⟩
        · rw [List.getElem?_map] at e
          cases e3 : (names (prs zs))[mm]? with
          | none => rw [e3] at e; cases e
          | some y =>
            rw [e3] at e
            rw [← Option.some.inj e]
            exact decide_eq_false fun z => hA.2 mm hm (by rw [e3, z])
        have s2 := ac.s
        refine ⟨fun σ' H0 => σ' = [some (.ref p), some (.ref R), some (.ref D), some (.int w), some (.int i), none] ∧ H0 = H2, ?_, ?_⟩
        · refine ⟨_, rfl, D, _, _, _, rfl, rfl, SqT.of hD2, rfl, rfl, _, rfl, ?_⟩
          rw [show decide (V.str (Str.ofString "change") = V.str (Str.ofString "drop")) = false from eq9]
          exact iteF ⟨rfl, rfl⟩
        rintro σ' H0 ⟨rfl, rfl⟩
        refine ⟨_, rfl, p, dx, _, rfl, s2 _ _ h1, fdJ_no _ _ _ _ _ _ (by decide +kernel) (by decide +kernel) (by decide +kernel) (by decide +kernel) (by decide +kernel) (by decide +kernel), _, rfl, D, _, _, _, rfl, rfl, SqT.of hD2, rfl, _, rfl, D, _, _, _, rfl, rfl, SqT.of hD2, rfl, p, w, t, u, d, b, i, _, es, n, k, rfl, hQ.same s2, hw, g.wd.prs, hA, hk, by omega, g.kb, hel, hT.ext s2, fun H3 t1 u1 f1 T1 Q1 => ?_⟩
        have f3 := (Fr.same s2).trans f1
        have hD3 := hD1 H3 f3
        have r3 := hR.fr f3 h1
        obtain ⟨ys1, k4, k5⟩ := id Q1.dn
        refine ⟨_, rfl, _, rfl, _, rfl, D, _, _, _, rfl, rfl, SqT.of hD3, rfl, _, rfl, D, _, _, _, rfl, rfl, SqT.of hD3, rfl, by show 2 ≤ sizeLine; decide, fun pa np => ?_⟩
        have s5 := Same.up (o := .lst [V.int k, V.str n]) np
        have e5 : upd H3 pa (.lst [V.int k, V.str n]) pa = _ := upd_same
        have npd : pa ≠ d := fun z => by rw [z, k4] at np; cases np
        have npR : pa ≠ R := fun z => by rw [z, r3.a] at np; cases np
        have T5 := T1.ext s5
        have Q5 := Q1.same s5
        have f5 := f3.trans (Fr.same s5)
        have r5 := r3.same s5
        generalize upd H3 pa (.lst [V.int k, V.str n]) = H5 at s5 e5 T5 Q5 f5 r5
        refine ⟨_, rfl, d, R, i, pa, w, k, n, zs, rfl, hw, r5, hi, hl12, npd, npR, e5, fun H4 b2 r2 => ⟨rfl, ?_⟩⟩
        show Q (.bl (decide (V.int (lastW (setP w (keys (prs zs)) i k) : Nat) = V.int (lastW (setP w (kz zs) i k) : Nat)))) H4
        rw [show kz zs = keys (prs zs) from rfl, decide_eq_true rfl]
        exact done H5 H4 t1 u1 _ _ f5 T5 Q5 b2 r2 (prs_set zs w i k (pa, (k, n)) _) (g.chg hw.1 hA hk)
def spJheap (C : Addr) : Sp := fun vs H Q _ => ∃ (p w t u d b : Nat) (ps : List Pr) (es : List (Deed × List Pr)), vs = [.ref p] ∧ QAt C H p w t u d b ps es ∧ Q (.ref t) H
theorem ok_jheap (T : Tx K mg A) : FnOk P w K mg base CX0 1 A.f_j_heap A.d_j_heap ["self"] (spJheap A.CJ) := by
  refine T.F_j_heap.ok sc_j_heap (fun vs H Q E h => ?_) (fun cdv B outer s H vs Q E hr h => ?_)
  · obtain ⟨p, w, t, u, d, b, ps, es, rfl, _⟩ := h
    rfl
  · obtain ⟨p, w, t, u, d, b, ps, es, rfl, ⟨⟨dx, m, h1⟩, h2, h3, h4⟩, q⟩ := h
    refine ⟨_, (pss_one (ps_ret (pe_fld (pv 0) rfl))), ?_⟩
    exact ⟨_, rfl, p, A.CJ, dx, _, _, rfl, h1, T.cTJ, T.jHeap, fdJ_hp _ _ _ _ _ _, q⟩
theorem b_jheap (T : Tx K mg A) : L2.Binds K A.d_j_heap ["self"] [] := T.F_j_heap.binds fun _ _ _ _ _ _ us hl => match us, hl with | [_], _ => rfl
def spJnames (C : Addr) : Sp := fun vs H Q _ => ∃ (p w t u d b : Nat) (ps : List Pr) (es : List (Deed × List Pr)), vs = [.ref p] ∧ QAt C H p w t u d b ps es ∧ Q (.ref u) H
theorem ok_jnames (T : Tx K mg A) : FnOk P w K mg base CX0 1 A.f_j_names A.d_j_names ["self"] (spJnames A.CJ) := by
  refine T.F_j_names.ok sc_j_names (fun vs H Q E h => ?_) (fun cdv B outer s H vs Q E hr h => ?_)
  · obtain ⟨p, w, t, u, d, b, ps, es, rfl, _⟩ := h
    rfl
  · obtain ⟨p, w, t, u, d, b, ps, es, rfl, ⟨⟨dx, m, h1⟩, h2, h3, h4⟩, q⟩ := h
    refine ⟨_, (pss_one (ps_ret (pe_fld (pv 0) rfl))), ?_⟩
    exact ⟨_, rfl, p, A.CJ, dx, _, _, rfl, h1, T.cTJ, T.jNames, fdJ_nm _ _ _ _ _ _, q⟩
theorem b_jnames (T : Tx K mg A) : L2.Binds K A.d_j_names ["self"] [] := T.F_j_names.binds fun _ _ _ _ _ _ us hl => match us, hl with | [_], _ => rfl
theorem DeedsAt.len {H : Hp} {xs : List V} {es : List Deed} (h : DeedsAt H xs es) : xs.length = es.length := by
  induction h with
  | nil => rfl
  | cons _ _ ih => rw [List.length_cons, List.length_cons, ih]
theorem DeedsAt.snoc {H : Hp} {xs : List V} {es : List Deed} {b : Addr} {e : Deed} (h : DeedsAt H xs es) (hx : H b = some (.tup (dvs e))) : DeedsAt H (xs ++ [.ref b]) (es ++ [e]) := by
  induction h with
  | nil => exact .cons hx .nil
  | cons h1 _ ih => exact .cons h1 ih
end
end Tw

set_option Elab.async false
set_option linter.all false
set_option maxRecDepth 100000
set_option maxHeartbeats 2000000
namespace Tw
open PySem PySem.Spec PyProof.Rows L2
section
variable {P : Program} {w : World} {K : PySem.W.Frag} {mg : Str → Option Value} {base : Heap} {A : Ad}
open LamX (ExtN Tabs TabS)
theorem EntsAt.get {H : Hp} {xs : List V} {es : List (Deed × List Pr)} (h : EntsAt H xs es) : ∀ (i : Nat) (x : V), xs[i]? = some x → ∃ e, es[i]? = some e ∧ EntAt H x e := by
  induction h with
  | nil => exact fun i x z => nomatch z
  | cons h1 _ ih =>
    intro i x z
    cases i with
    | zero =>
      rw [List.getElem?_cons_zero] at z
      cases z
      exact ⟨_, rfl, h1⟩
    | succ i =>
      rw [List.getElem?_cons_succ] at z
      exact ih i x z
def spJjour (C : Addr) : Sp := fun vs H Q _ => ∃ (p w t u d b : Nat) (ps : List Pr) (es : List (Deed × List Pr)), vs = [.ref p] ∧ QAt C H p w t u d b ps es ∧ es.length ≤ 900 ∧
  ∀ (H' : Hp) (D : Addr) (xs : List V), Same H H' → H D = none → H' D = some (.lst xs) → DeedsAt H' xs (es.map (·.1)) → Q (.ref D) H'
theorem ok_jjour (T : Tx K mg A) : FnOk P w K mg base CX0 1 A.f_j_journal A.d_j_journal ["self"] (spJjour A.CJ) := by
  refine T.F_j_journal.ok sc_j_journal (fun vs H Q E h => ?_) (fun cdv B outer s H vs Q E hr h => ?_)
  · obtain ⟨p, w, t, u, d, b, ps, es, rfl, _⟩ := h
    rfl
  · obtain ⟨p, w, t, u, d, b, ps, es, rfl, ⟨⟨dx, m, h1⟩, h2, h3, ⟨ys, h4, h5⟩⟩, hl, q⟩ := h
    have nd := sc_j_journal.nd
    refine ⟨_, (pss_one (ps_ret (pe_lc (own := [("done", 1)]) (g := gName 1) (tt := tYes) rfl nd (pi_list (pe_fld (pv 0) rfl)) (blkOk_by (own := [("done", 1)]) (N := ["self", "done"]) (sc := defScope s_j_journal) (by decide +kernel)) (fun _ _ _ _ _ => pg_name (i := 1) nd rfl (Or.inl rfl)) (fun _ _ _ _ _ => pts_nil) (fun _ _ _ _ _ => (pe_ix (r := rIxT K) ix_tup (pv 1) pe_int (fun _ _ => rfl)))))), ?_⟩
    have hyl := h5.len
    refine ⟨_, rfl, p, A.CJ, dx, _, _, rfl, h1, T.cTJ, T.jDone, fdJ_dn _ _ _ _ _ _, d, rfl, ⟨_, SqL.of h4⟩, fun D nD => ?_⟩
    refine lc_it (walk_list (xs := ys)) (fun j H' => ∃ acc, DeedsAt H' acc ((es.take j).map (·.1)) ∧ Acc H D acc H') ⟨[], .nil, Acc.start nD⟩ (fun j H' _ ⟨acc, _, ac⟩ => ac.s.seq (SqL.of h4)) ?_ ?_
    · rintro j x H6 H7 hj ⟨acc, da, ac⟩ ⟨rfl, ex⟩
      obtain ⟨e, ee, ha⟩ := h5.get j x ex
      obtain ⟨a, b2, t2, u2, rfl, g1, g2, g3, g4⟩ := ha.fz (Fz.same ac.s)
      have hj2 : j < es.length := by omega
      refine ⟨rfl, _, rfl, a, _, _, _, rfl, rfl, SqT.of g1, rfl, acc, ac.a, small1000 (by rw [da.len, List.length_map, List.length_take]; omega), acc ++ [.ref b2], ?_, ac.push⟩
      have hf : Fz H7 (upd H7 D (.lst (acc ++ [V.ref b2]))) := fun c o h n1 n2 n3 => by
        rw [upd_ne (fun z => by rw [z, ac.a] at h; exact n3 _ (Option.some.inj h).symm)]
        exact h
      have ee2 := (List.getElem?_eq_some_iff.mp ee).2
      rw [← List.take_append_getElem hj2, List.map_append, List.map_singleton, ee2]
      exact (da.fz hf).snoc (hf.tup g2)
    · rintro H6 ⟨acc, da, ac⟩
      rw [hyl, List.take_of_length_le (Nat.le_refl _)] at da
      exact q _ D acc ac.s nD ac.a da
theorem b_jjour (T : Tx K mg A) : L2.Binds K A.d_j_journal ["self"] [] := T.F_j_journal.binds fun _ _ _ _ _ _ us hl => match us, hl with | [_], _ => rfl
def spJkey (C : Addr) : Sp := fun vs H Q _ => ∃ (p w t u d b i : Nat) (ps : List Pr) (es : List (Deed × List Pr)) (n : Str), vs = [.ref p, .str n] ∧ QAt C H p w t u d b ps es ∧ WordsOk ps ∧ AtN ps i n ∧ Q (.int (keyAt (keys ps) i)) H
theorem ok_jkey (T : Tx K mg A) : FnOk P w K mg base CX0 3 A.f_j_key_of A.d_j_key_of ["self", "name"] (spJkey A.CJ) := by
  refine T.F_j_key_of.ok sc_j_key_of (fun vs H Q E h => ?_) (fun cdv B outer s H vs Q E hr h => ?_)
  · obtain ⟨p, w, t, u, d, b, i, ps, es, n, rfl, _⟩ := h
    rfl
  · obtain ⟨p, w, t, u, d, b, i, ps, es, n, rfl, hQ, hW, hA, q⟩ := h
    refine ⟨_, (pss_one (ps_ret (pe_ix (r := rIxT K) ix_tup (pe_fld (pv 0) rfl) (pe_meth (pv 0) T.cTJ T.M_j_where (ok_jwhere T) (hr.mono (by decide)) (b_jwhere T) .nil pass0 (pa_cons (pv 1) pa_nil)) (fun _ _ => rfl)))), ?_⟩
    obtain ⟨⟨dx, m, h1⟩, h2, h3, h4⟩ := id hQ
    exact ⟨_, rfl, p, A.CJ, dx, _, _, rfl, h1, T.cTJ, T.jHeap, fdJ_hp _ _ _ _ _ _, _, rfl, p, dx, _, rfl, h1, fdJ_no _ _ _ _ _ _ (by decide +kernel) (by decide +kernel) (by decide +kernel) (by decide +kernel) (by decide +kernel) (by decide +kernel), _, rfl, p, w, t, u, d, b, i, ps, es, n, rfl, hQ, hW, hA, t, _, _, _, rfl, rfl, SqT.of h2, key_at (by rw [keys_len]; exact hA.lt), q⟩
theorem b_jkey (T : Tx K mg A) : L2.Binds K A.d_j_key_of ["self", "name"] [] := T.F_j_key_of.binds fun _ _ _ _ _ _ us hl => match us, hl with | [_, _], _ => rfl
theorem ints_all : ∀ ks ms : List Int, PyData.eqvAll (ks.map PyData.int) (ms.map PyData.int) = decide (ks = ms)
  | [], [] => by simp [PyData.eqvAll]
  | [], m :: ms => by simp [PyData.eqvAll]
  | k :: ks, [] => by simp [PyData.eqvAll]
  | k :: ks, m :: ms => by
    simp only [List.map_cons, PyData.eqvAll, ints_all ks ms, PyData.eqv]
    by_cases h1 : k = m
    · by_cases h2 : ks = ms <;> simp [h1, h2]
    · simp [h1]
theorem ints_eqv (ks ms : List Int) : PyData.eqv (.tuple (ks.map PyData.int)) (.tuple (ms.map PyData.int)) = decide (ks = ms) := by
  rw [← ints_all]
  simp [PyData.eqv]
theorem ints_shT (ks : List Int) : SeqAt.shaped (.tuple (ks.map PyData.int)) = true := by
  have h := shaped_ints ks
  unfold SeqAt.shaped at h ⊢
  simp only [PyData.canLay0, PyData.depth] at h ⊢
  exact h
theorem ints_tup (K : PySem.W.Frag) {H : Hp} {a : Addr} {ks : List Int} (h : H a = some (.tup (ks.map V.int))) : Dp K H (.ref a) (.tuple (ks.map PyData.int)) := .tup (SqT.of h) (ints_dp K H ks)
theorem sh_refl {d : PyData} (h : SeqAt.shaped d = true) : PyData.eqv d d = true := SeqAt.eqv_refl d (SeqAt.canLay_of_shaped h)
theorem strs_dp (K : PySem.W.Frag) (H : Hp) : ∀ ns : List Str, DpAll K H (ns.map V.str) (ns.map PyData.str)
  | [] => .nil
  | n :: ns => .cons (.str n) (strs_dp K H ns)
theorem strs_deep : ∀ ks : List Str, PyData.depthAll (ks.map PyData.str) ≤ 1
  | [] => by simp [PyData.depthAll]
  | k :: ks => by
    have := strs_deep ks
    simp only [List.map_cons, PyData.depthAll, PyData.depth]
    omega
theorem strs_sh {ns : List Str} (h : ∀ z ∈ ns, (PyData.str z).canLay0 = true) : SeqAt.shaped (.tuple (ns.map PyData.str)) = true := by
  have h1 := strs_deep ns
  unfold SeqAt.shaped
  rw [PyData.canLay0, lay_strs ns h, Bool.true_and]
  refine decide_eq_true ?_
  rw [PyData.depth]
  omega
def spLsame (A : Ad) : Sp := fun vs H Q _ => ∃ (p w t u d b R P : Nat) (zs : List Zr) (es : List (Deed × List Pr)) (xs : List V), vs = [.ref p, .ref R, .ref P] ∧ QAt A.CJ H p w t u d b (prs zs) es ∧ Rows d H R zs ∧ H P = some (.lst xs) ∧ DeedsAt H xs (es.map (·.1)) ∧ (∀ e ∈ es, DeedOk e.1) ∧ WordsZ zs ∧ (names (prs zs)).Nodup ∧ zs.length ≤ 12 ∧ es.length ≤ 900 ∧ ∀ H', Same H H' → Q (.bl true) H'
theorem ok_lsame (T : Tx K mg A) : FnOk P w K mg base CX0 4 A.f__law_same A.d__law_same ["queue", "rows", "past"] (spLsame A) := by
  refine T.F__law_same.ok sc__law_same (fun vs H Q E h => ?_) (fun cdv B outer s H vs Q E hr h => ?_)
  · obtain ⟨p, w, t, u, d, b, R, P, zs, es, xs, rfl, _⟩ := h
    rfl
  · obtain ⟨p, w, t, u, d, b, R, P, zs, es, xs, rfl, hQ, hR, hP, hD, hdo, hW, hN, hl12, hel, q⟩ := h
    have nd := sc__law_same.nd
    have hu := hr.units
    refine ⟨_, (C8.pss_cut (ps_if (PW.pt (pw_or (pt_cmpR (op_neD hu) (pe_prop (pv 0) T.cTJ T.P_j_heap (ok_jheap T) (hr.mono (by decide)) (b_jheap T) .nil pass0 rfl) (pe_callTy call_tuple_of (by rfl) T.g_tuple (by decide +kernel) (pa_cons (pe_lc (own := [("pair", 3)]) (g := gName 3) (tt := tYes) rfl nd (pi_list (pv 1)) (blkOk_by (own := [("pair", 3)]) (N := ["queue", "rows", "past", "pair", "place"]) (sc := defScope s__law_same) (by decide +kernel)) (fun _ _ _ _ _ => pg_name (i := 3) nd rfl (Or.inl rfl)) (fun _ _ _ _ _ => pts_nil) (fun _ _ _ _ _ => (pe_ix (r := rIxL K) ix_list (pv 3) pe_int (fun _ _ => rfl)))) pa_nil)) (nomark _)) (pw_or1 (pt_cmpR (op_neD hu) (pe_prop (pv 0) T.cTJ T.P_j_names (ok_jnames T) (hr.mono (by decide)) (b_jnames T) .nil pass0 rfl) (pe_callTy call_tuple_of (by rfl) T.g_tuple (by decide +kernel) (pa_cons (pe_lc (own := [("pair", 3)]) (g := gName 3) (tt := tYes) rfl nd (pi_list (pv 1)) (blkOk_by (own := [("pair", 3)]) (N := ["queue", "rows", "past", "pair", "place"]) (sc := defScope s__law_same) (by decide +kernel)) (fun _ _ _ _ _ => pg_name (i := 3) nd rfl (Or.inl rfl)) (fun _ _ _ _ _ => pts_nil) (fun _ _ _ _ _ => (pe_ix (r := rIxL K) ix_list (pv 3) pe_int (fun _ _ => rfl)))) pa_nil)) (nomark _))))) (pss_one (ps_ret pe_bl)) pss_nil)
      (C8.pss_cut (ps_if (PW.pt (pw_or (pt_cmpR op_ne (pe_callB (call_len_own T.D_j___len__ (ok_jlen T) (hr.mono (by decide)) (b_jlen T) pass0) (by rfl) T.g_len PySem.boot_len (pa_cons (pv 0) pa_nil)) (pe_callB (r := rLn K) call_len_seq (by rfl) T.g_len PySem.boot_len (pa_cons (pv 1) pa_nil)) (nomark _)) (pw_or (pt_cmpR (op_neD hu) (pe_prop (pv 0) T.cTJ T.P_j_journal (ok_jjour T) (hr.mono (by decide)) (b_jjour T) .nil pass0 rfl) (pv 2) (nomark _)) (pw_or1 (pt_not (pt_val (pe_callB (r := rIsi K) call_isi (by rfl) T.g_isinstance (by decide +kernel) (pa_cons (pe_prop (pv 0) T.cTJ T.P_j_journal (ok_jjour T) (hr.mono (by decide)) (b_jjour T) .nil pass0 rfl) (pa_cons (pe_bltn (v := .ty "list") (by rfl) T.g_list (by decide +kernel) rfl) pa_nil))))))))) (pss_one (ps_ret pe_bl)) pss_nil)
      (C8.pss_cut (ps_for PassesOwn.never rfl (pi_enS (by rfl) T.g_enumerate (pa_cons (pv 1) pa_nil)) (pg_tup rfl (pgs_cons (pg_name (i := 4) nd rfl (Or.inl rfl)) (pgs_cons (pg_name (i := 3) nd rfl (Or.inl rfl)) pgs_nil))) (pss_one (ps_if (PW.pt (pw_or (pt_cmpR op_ne (pe_meth (pv 0) T.cTJ T.M_j_where (ok_jwhere T) (hr.mono (by decide)) (b_jwhere T) .nil pass0 (pa_cons (pe_ix (r := rIxL K) ix_list (pv 3) pe_int (fun _ _ => rfl)) pa_nil)) (pv 4) (nomark _)) (pw_or (pt_cmpR op_ne (pe_meth (pv 0) T.cTJ T.M_j_key_of (ok_jkey T) (hr.mono (by decide)) (b_jkey T) .nil pass0 (pa_cons (pe_ix (r := rIxL K) ix_list (pv 3) pe_int (fun _ _ => rfl)) pa_nil)) (pe_ix (r := rIxL K) ix_list (pv 3) pe_int (fun _ _ => rfl)) (nomark _)) (pw_or1 (pt_cmpR op_notBl (pe_cmpR (op_in_own T.D_j___contains__ (ok_jcont T) (hr.mono (by decide)) (b_jcont T) pass0) (pe_ix (r := rIxL K) ix_list (pv 3) pe_int (fun _ _ => rfl)) (pv 0) (by rfl)) pe_bl (nomark _)))))) (pss_one (ps_ret pe_bl)) pss_nil)))
      (pss_one (ps_ret pe_bl))))), ?_⟩
    have hdl : ∀ e ∈ es.map (·.1), DeedOk e := fun e he => by
      obtain ⟨y, hy, rfl⟩ := List.mem_map.mp he
      exact hdo y hy
    have hkl : (kz zs).length = zs.length := kz_len zs
    have hpl : (prs zs).length = zs.length := prs_len zs
    refine ⟨fun σ' H' => σ' = [some (.ref p), some (.ref R), some (.ref P), none, none] ∧ Same H H', ?_, ?_⟩
    · obtain ⟨dx, m, h1⟩ := id hQ.ob
      refine ⟨_, rfl, p, dx, _, rfl, h1, p, w, t, u, d, b, _, es, rfl, hQ, ?_⟩
      refine ⟨_, rfl, R, rfl, ⟨_, SqL.of hR.a⟩, fun D nD => ?_⟩
      refine lc_it (walk_list (xs := zs.map fun z => V.ref z.1)) (fun j H' => Acc H D (((zs.take j).map fun z => z.2.1).map V.int) H') (Acc.start nD) (fun j H' _ ac => ac.s.seq (SqL.of hR.a)) ?_ ?_
      · rintro j x H6 H7 hj ac ⟨rfl, ex⟩
        have hj2 : j < zs.length := by rw [List.length_map] at hj; exact hj
        obtain rfl : x = V.ref zs[j].1 := by
          rw [List.getElem?_map, List.getElem?_eq_getElem hj2] at ex
          exact (Option.some.inj ex).symm
        refine ⟨rfl, _, rfl, _, _, _, _, rfl, rfl, SqL.of ((hR.same ac.s).it _ (List.getElem_mem hj2)).2.2, rfl, _, ac.a, small1000 (by rw [List.length_map, List.length_map, List.length_take]; omega), ?_⟩
        rw [← List.take_append_getElem hj2, List.map_append, List.map_append]
        exact ac.push
      · intro H2 ac
        rw [List.length_map, List.take_length] at ac
        have eK : (zs.map fun z => z.2.1) = keys (prs zs) := by unfold keys prs; rw [List.map_map]; rfl
        rw [eK] at ac
        refine ⟨D, _, rfl, .inl ⟨SqL.of ac.a, fun u1 n1 => ?_⟩⟩
        have s9 := Same.up (o := .tup ((keys (prs zs)).map V.int)) n1
        have e9 : upd H2 u1 (.tup ((keys (prs zs)).map V.int)) u1 = _ := upd_same
        have s02 := ac.s.trans s9
        generalize upd H2 u1 (.tup ((keys (prs zs)).map V.int)) = H3 at s9 e9 s02
        have Q3 := hQ.same s02
        refine ⟨_, _, ints_tup K Q3.hp, ints_tup K e9, ints_shT _, ints_shT _, _, rfl, ?_⟩
        rw [ints_eqv, decide_eq_true rfl]
        refine iteF ⟨_, rfl, p, dx, _, rfl, s02 _ _ h1, p, w, t, u, d, b, _, es, rfl, Q3, ?_⟩
        have R3 := hR.same s02
        refine ⟨_, rfl, R, rfl, ⟨_, SqL.of R3.a⟩, fun D2 nD2 => ?_⟩
        refine lc_it (walk_list (xs := zs.map fun z => V.ref z.1)) (fun j H' => Acc H3 D2 (((zs.take j).map fun z => z.2.2).map V.str) H') (Acc.start nD2) (fun j H' _ ac => ac.s.seq (SqL.of R3.a)) ?_ ?_
        · rintro j x H6 H7 hj ac ⟨rfl, ex⟩
          have hj2 : j < zs.length := by rw [List.length_map] at hj; exact hj
          obtain rfl : x = V.ref zs[j].1 := by
            rw [List.getElem?_map, List.getElem?_eq_getElem hj2] at ex
            exact (Option.some.inj ex).symm
          refine ⟨rfl, _, rfl, _, _, _, _, rfl, rfl, SqL.of ((R3.same ac.s).it _ (List.getElem_mem hj2)).2.2, rfl, _, ac.a, small1000 (by rw [List.length_map, List.length_map, List.length_take]; omega), ?_⟩
          rw [← List.take_append_getElem hj2, List.map_append, List.map_append]
          exact ac.push
        · intro H4 ac2
          rw [List.length_map, List.take_length, ← names_prs] at ac2
          refine ⟨D2, _, rfl, .inl ⟨SqL.of ac2.a, fun u2 n2 => ?_⟩⟩
          have s10 := Same.up (o := .tup ((names (prs zs)).map V.str)) n2
          have e10 : upd H4 u2 (.tup ((names (prs zs)).map V.str)) u2 = _ := upd_same
          have s34 := ac2.s.trans s10
          generalize upd H4 u2 (.tup ((names (prs zs)).map V.str)) = H5 at s10 e10 s34
          have hsh := strs_sh (lay_of hW.prs)
          refine ⟨_, _, .tup (Q3.same s34).nm.sq (strs_dp _ _ _), .tup (SqT.of e10) (strs_dp _ _ _), hsh, hsh, _, rfl, ?_⟩
          rw [sh_refl hsh]
          exact iteF ⟨rfl, s02.trans s34⟩
    rintro σ' H1 ⟨rfl, s1⟩
    refine ⟨fun σ' H' => σ' = [some (.ref p), some (.ref R), some (.ref P), none, none] ∧ Same H H', ?_, ?_⟩
    · have Q1 := hQ.same s1
      obtain ⟨dx, m, h1⟩ := id Q1.ob
      refine ⟨_, rfl, p, dx, _, rfl, h1, p, w, t, u, d, b, _, es, rfl, Q1, _, rfl, by omega, _, rfl, R, _, rfl, .inl (SqL.of (hR.same s1).a), rfl, _, rfl, ?_⟩
      refine ite_b (c := false) (by rw [List.length_map, hpl, decide_eq_true rfl]; rfl) (iteF ?_)
      refine ⟨_, rfl, p, dx, _, rfl, h1, p, w, t, u, d, b, _, es, rfl, Q1, hel, fun H2 D ys s2 n2 e2 d2 => ⟨_, rfl, ?_⟩⟩
      have s12 := s1.trans s2
      have hsh := deeds_sh hdl
      refine ⟨_, _, .lst (SqL.of e2) (deeds_dp d2), .lst (SqL.of (s12 _ _ hP)) (deeds_dp (hD.fz (Fz.same s12))), hsh, hsh, _, rfl, ?_⟩
      rw [sh_refl hsh]
      have Q2 := hQ.same s12
      refine iteF ⟨_, rfl, p, dx, _, rfl, s2 _ _ h1, p, w, t, u, d, b, _, es, rfl, Q2, hel, fun H3 D3 ys3 s3 n3 e3 d3 => ?_⟩
      refine ⟨_, _, .type "list", .type "list", true, rfl, .ty "list", .base (.lst e3), kit_ty (by decide +kernel), true, rfl, iteF ⟨rfl, s12.trans s3⟩⟩
    rintro σ' H2 ⟨rfl, s2⟩
    have R2 := hR.same s2
    refine ⟨fun σ' H' => ∃ (x3 x4 : Option V), σ' = [some (.ref p), some (.ref R), some (.ref P), x3, x4] ∧ Same H H', ?_, ?_⟩
    · refine ⟨_, rfl, R, _, rfl, .inl ⟨SqL.of R2.a, ?_⟩⟩
      refine for_it (walk_enum (xs := zs.map fun z => V.ref z.1)) (fun i σ' H' => ∃ (x3 x4 : Option V), σ' = [some (.ref p), some (.ref R), some (.ref P), x3, x4] ∧ Same H H')
        ⟨none, none, rfl, s2⟩ (fun i σ' H' _ ⟨_, _, _, s⟩ => s.seq (SqL.of hR.a)) ?_ (fun _ _ h => h)
      rintro j y σ' H5 H6 hj ⟨x3, x4, rfl, s5⟩ ⟨T', x, x2, rfl, hT, rfl, e1, e2⟩
      have hj2 : j < zs.length := by rw [List.length_map] at hj; exact hj
      have e1 : some (V.int (j : Nat)) = some x := e1
      have e2 : (zs.map fun z => V.ref z.1)[j]? = some x2 := e2
      cases e1
      rw [List.getElem?_map, List.getElem?_eq_getElem hj2] at e2
      cases e2
      have s6 := s5.trans (Same.up (o := .tup [V.int (j : Nat), V.ref zs[j].1]) hT)
      refine ⟨_, _, rfl, SqT.of upd_same, rfl, _, _, rfl, _, _, rfl, rfl, ?_⟩
      generalize upd H5 T' (.tup [V.int (j : Nat), V.ref zs[j].1]) = H7 at s6
      have Q6 := hQ.same s6
      have it := ((hR.same s6).it _ (List.getElem_mem hj2)).2.2
      obtain ⟨dx, m, h1⟩ := id Q6.ob
      have hA : AtN (prs zs) j zs[j].2.2 := by
        have := atN_of hN (i := j) (by rw [prs_len]; exact hj2)
        have e : (prs zs).getD j d0 = zs[j].2 := by
          rw [getD_at d0 (by rw [prs_len]; exact hj2)]
          unfold prs
          rw [List.getElem_map]
        rw [e] at this
        exact this
      have ek : keyAt (keys (prs zs)) j = zs[j].2.1 := by
        have := kz_at zs j
        rw [getD_at z0 hj2] at this
        exact this
      refine ⟨_, rfl, p, dx, _, rfl, h1, fdJ_no _ _ _ _ _ _ (by decide +kernel) (by decide +kernel) (by decide +kernel) (by decide +kernel) (by decide +kernel) (by decide +kernel), _, rfl, _, _, _, _, rfl, rfl, SqL.of it, rfl, p, w, t, u, d, b, j, _, es, _, rfl, Q6, hW.prs, hA, _, rfl, rfl, _, rfl, ?_⟩
      refine ite_b (c := false) (by rw [decide_eq_true rfl]; rfl) (iteF ?_)
      refine ⟨_, rfl, p, dx, _, rfl, h1, fdJ_no _ _ _ _ _ _ (by decide +kernel) (by decide +kernel) (by decide +kernel) (by decide +kernel) (by decide +kernel) (by decide +kernel), _, rfl, _, _, _, _, rfl, rfl, SqL.of it, rfl, p, w, t, u, d, b, j, _, es, _, rfl, Q6, hW.prs, hA, _, rfl, _, _, _, _, rfl, rfl, SqL.of it, rfl, rfl, _, rfl, ?_⟩
      rw [ek]
      refine ite_b (c := false) (by rw [decide_eq_true rfl]; rfl) (iteF ?_)
      refine ⟨_, rfl, _, _, _, _, rfl, rfl, SqL.of it, rfl, _, rfl, p, dx, _, rfl, h1, p, w, t, u, d, b, _, es, _, rfl, Q6, .inl ⟨_, rfl, _, rfl, _, _, rfl, rfl, _, rfl, ?_⟩⟩
      refine ite_b (c := false) (by rw [decide_eq_true hA.mem]; rfl) (iteF ⟨_, _, rfl, s6⟩)
    rintro σ' H3 ⟨x3, x4, rfl, s3⟩
    exact q H3 s3
end
end Tw

set_option Elab.async false
set_option linter.all false
set_option maxRecDepth 100000
set_option maxHeartbeats 2000000
namespace Tw
open PySem PySem.Spec PyProof.Rows L2
section
variable {P : Program} {w : World} {K : PySem.W.Frag} {mg : Str → Option Value} {base : Heap} {A : Ad}
open LamX (ExtN Tabs TabS)
/-! the law: emodN word_of last_at -/
def lenS (σ : L2.St) (H : Hp) : Nat := match (σ[4]? : Option (Option V)) with
  | some (some (V.ref P)) => lenL H P
  | _ => 0
def spLaw (K : PySem.W.Frag) (A : Ad) : Sp := fun vs H Q _ => ∃ (a : Addr) (ns : List Int), vs = [.ref a] ∧ SqL K H a (ns.map V.int) ∧ ns.length ≤ 63 ∧ Tabs (TT A) H ∧ ∀ H', Q (.bl true) H'
theorem ok_law (T : Tx K mg A) (TB : LamX.TabB base mg A.c_least_child A.P_least_child) : FnOk P w K mg base CX0 16 A.f_law A.d_law ["script"] (spLaw K A) := by
  obtain ⟨diJ, riJ, biJ⟩ := bd_iJ T
  obtain ⟨miJ, kiJ⟩ := kb_iJ T
  refine T.F_law.ok sc_law (fun vs H Q E h => ?_) (fun cdv B outer s H vs Q E hr h => ?_)
  · obtain ⟨a, ns, rfl, _⟩ := h
    rfl
  · obtain ⟨a, ns, rfl, ha, h63, hT, q⟩ := h
    have nd := sc_law.nd
    have hu := hr.units
    refine ⟨_, PSs.nox (C8.pss_cut (ps_set (i := 1) nd rfl (Or.inl rfl) (pe_callTy call_int1 (by rfl) T.g_int (by decide +kernel) (pa_cons (pe_call (ok_num T) (hr.mono (by decide)) (by rfl) T.m__law_number T.F__law_number.kp (b_num T) .nil pass0 (pa_cons (pv 0) (pa_cons pe_int pa_nil))) pa_nil)))
      (C8.pss_cut (ps_asg (pe_tup (pa_cons (pe_op op_add pe_int (pe_op op_mod (pe_callTy call_int1 (by rfl) T.g_int (by decide +kernel) (pa_cons (pv 1) pa_nil)) pe_int)) (pa_cons (pe_lst pa_nil) (pa_cons (pe_lst pa_nil) (pa_cons (pe_lst pa_nil) pa_nil))))) (pg_tup rfl (pgs_cons (pg_name (i := 2) nd rfl (Or.inl rfl)) (pgs_cons (pg_name (i := 3) nd rfl (Or.inl rfl)) (pgs_cons (pg_name (i := 4) nd rfl (Or.inl rfl)) (pgs_cons (pg_name (i := 5) nd rfl (Or.inl rfl)) pgs_nil))))))
      (C8.pss_cut (ps_set (i := 6) nd rfl (Or.inl rfl) (pe_makeK0 T.mkCJ (ok_iJ T) (hr.mono (by decide)) (by rfl) T.mCJ kiJ pass0 (pk_cons (pv 2) pk_nil)))
      (C8.pss_cut (ps_for PassesOwn.never rfl (pi_range1 rfl T.g_range (pa_cons (pe_op op_mod (pe_callTy call_int1 (by rfl) T.g_int (by decide +kernel) (pa_cons (pe_op op_fdiv (pv 1) pe_int) pa_nil)) pe_int) pa_nil)) (pg_name (i := 7) nd rfl (Or.inl rfl)) (C8.pss_cut (ps_if (PW.pt (pw_and (pt_cmpR op_eq (pe_op op_mod (pe_callTy call_int1 (by rfl) T.g_int (by decide +kernel) (pa_cons (pe_call (ok_num T) (hr.mono (by decide)) (by rfl) T.m__law_number T.F__law_number.kp (b_num T) .nil pass0 (pa_cons (pv 0) (pa_cons (pe_op op_add pe_int (pv 7)) pa_nil))) pa_nil)) pe_int) pe_int (nomark _)) (pw_and1 (pt_cmpR (op_neD hu) (pv 4) (pe_lst pa_nil) (nomark _))))) (C8.pss_cut (ps_if (pt_cmpR (op_neD hu) (pe_call (ok_lback T) (hr.mono (by decide)) (by rfl) T.m__law_back T.F__law_back.kp (b_lback T) .nil pass0 (pa_cons (pv 6) pa_nil)) (pe_ix (r := rIxL K) ix_list (pv 4) (pe_un un_neg pe_int) (fun _ _ => rfl)) (nomark _)) (pss_one (ps_ret pe_bl)) pss_nil)
      (pss_one (ps_par (i := 3) (j := 4) rfl nd rfl rfl (by decide) rfl rfl (pa_cons (pe_bm0 PySem.F.plainAttrs_list PySem.F.slot_list_pop PySem.F.type_list_pop mt_pop (pv 5)) (pa_cons (pe_slice (r := rSlL K) sl_list (pv 4) po_none (po_some (pe_un un_neg pe_int))) pa_nil)) rfl))) (C8.pss_cut (ps_set (i := 8) nd rfl (Or.inl rfl) (pe_call (ok_ldeed T) (hr.mono (by decide)) (by rfl) T.m__law_deed T.F__law_deed.kp (b_ldeed T) .nil pass0 (pa_cons (pv 0) (pa_cons (pe_op op_add pe_int (pe_op op_mul pe_int (pv 7))) (pa_cons (pv 3) pa_nil)))))
      (C8.pss_cut (ps_expr (pe_bm PySem.F.plainAttrs_list PySem.F.slot_list_append PySem.F.type_list_append mt_append (pv 5) (pa_cons (pe_lc (own := [("pair", 9)]) (g := gName 9) (tt := tYes) rfl nd (pi_list (pv 3)) (blkOk_by (own := [("pair", 9)]) (N := ["script", "seed", "wide", "rows", "past", "before", "queue", "turn", "deed", "pair"]) (sc := defScope s_law) (by decide +kernel)) (fun _ _ _ _ _ => pg_name (i := 9) nd rfl (Or.inl rfl)) (fun _ _ _ _ _ => pts_nil) (fun _ _ _ _ _ => (pe_callTy (r := rListK K) call_listK (by rfl) T.g_list (by decide +kernel) (pa_cons (pv 9) pa_nil)))) pa_nil)))
      (C8.pss_cut (ps_if (pt_not (pt_val (pe_call (ok_ldone T TB) (hr.mono (by decide)) (by rfl) T.m__law_done T.F__law_done.kp (b_ldone T) .nil pass0 (pa_cons (pv 6) (pa_cons (pv 3) (pa_cons (pv 8) (pa_cons (pv 2) pa_nil))))))) (pss_one (ps_ret pe_bl)) pss_nil)
      (pss_one (ps_set (i := 4) nd rfl (Or.inl rfl) (pe_op op_cat (pv 4) (pe_lst (pa_cons (pv 8) pa_nil)))))))))
      (pss_one (ps_if (pt_not (pt_val (pe_call (ok_lsame T) (hr.mono (by decide)) (by rfl) T.m__law_same T.F__law_same.kp (b_lsame T) .nil pass0 (pa_cons (pv 6) (pa_cons (pv 3) (pa_cons (pv 4) pa_nil)))))) (pss_one (ps_ret pe_bl)) pss_nil))))
      (C8.pss_cut (ps_while PassesOwn.never (pt_cmpR (op_neD hu) (pv 4) (pe_lst pa_nil) (nomark _)) (C8.pss_cut (ps_if (pt_cmpR (op_neD hu) (pe_call (ok_lback T) (hr.mono (by decide)) (by rfl) T.m__law_back T.F__law_back.kp (b_lback T) .nil pass0 (pa_cons (pv 6) pa_nil)) (pe_ix (r := rIxL K) ix_list (pv 4) (pe_un un_neg pe_int) (fun _ _ => rfl)) (nomark _)) (pss_one (ps_ret pe_bl)) pss_nil)
      (C8.pss_cut (ps_par (i := 3) (j := 4) rfl nd rfl rfl (by decide) rfl rfl (pa_cons (pe_bm0 PySem.F.plainAttrs_list PySem.F.slot_list_pop PySem.F.type_list_pop mt_pop (pv 5)) (pa_cons (pe_slice (r := rSlL K) sl_list (pv 4) po_none (po_some (pe_un un_neg pe_int))) pa_nil)) rfl)
      (pss_one (ps_if (pt_not (pt_val (pe_call (ok_lsame T) (hr.mono (by decide)) (by rfl) T.m__law_same T.F__law_same.kp (b_lsame T) .nil pass0 (pa_cons (pv 6) (pa_cons (pv 3) (pa_cons (pv 4) pa_nil)))))) (pss_one (ps_ret pe_bl)) pss_nil)))))
      (pss_one (ps_ret (pe_and (pe_cmpR op_isN (pe_call (ok_lback T) (hr.mono (by decide)) (by rfl) T.m__law_back T.F__law_back.kp (b_lback T) .nil pass0 (pa_cons (pv 6) pa_nil)) pe_non (nomark _)) (pe_and (pe_cmpR op_isN (pe_call (ok_lback T) (hr.mono (by decide)) (by rfl) T.m__law_back T.F__law_back.kp (b_lback T) .nil pass0 (pa_cons (pe_make0 T.mkCJ (ok_iJ T) (hr.mono (by decide)) (by rfl) T.mCJ biJ riJ pass0) pa_nil)) pe_non (nomark _)) (pe_one (pe_call (ok_lsame T) (hr.mono (by decide)) (by rfl) T.m__law_same T.F__law_same.kp (b_lsame T) .nil pass0 (pa_cons (pv 6) (pa_cons (pe_lst pa_nil) (pa_cons (pe_lst pa_nil) pa_nil)))))))))))))), ?_⟩
    obtain ⟨H0, eH0⟩ : ∃ H0, H0 = H := ⟨H, rfl⟩
    refine ⟨fun σ' H' => ∃ se : Int, σ' = [some (.ref a), some (.int se), none, none, none, none, none, none, none, none] ∧ Same H H', ?_, ?_⟩
    · exact ⟨_, rfl, a, ns, 0, rfl, ha, h63, by omega, fun H1 r1 s1 => .inl ⟨_, rfl, _, rfl, s1⟩⟩
    rintro σ' H1 ⟨se, rfl, s1⟩
    refine ⟨fun σ' H' => ∃ (w R P B : Nat), σ' = [some (.ref a), some (.int se), some (.int w), some (.ref R), some (.ref P), some (.ref B), none, none, none, none] ∧ Same H1 H' ∧ (1 ≤ w ∧ w ≤ 4) ∧ H1 R = none ∧ H1 B = none ∧ H' R = some (.lst []) ∧ H' P = some (.lst []) ∧ H' B = some (.lst []) ∧ P ≠ R ∧ P ≠ B ∧ B ≠ R, ?_, ?_⟩
    · obtain ⟨n1, e1, b1⟩ := emodN se 4 (by decide)
      have e1 : se % 4 = (n1 : Int) := e1
      refine ⟨_, rfl, .inl ⟨_, rfl, _, _, rfl, rfl, by show (0 : Int) < 4; decide, _, _, rfl, rfl, Nat.zero_le _, fun R nR => ⟨Nat.zero_le _, fun P nP => ⟨Nat.zero_le _, fun B nB => ⟨by show 4 ≤ sizeLine; decide, fun tt ntt => ?_⟩⟩⟩⟩⟩
      have sR := Same.up (o := .lst []) nR
      have sP := Same.up (o := .lst []) nP
      have sB := Same.up (o := .lst []) nB
      have sT := Same.up (o := .tup [V.int (1 + se % 4), V.ref R, V.ref P, V.ref B]) ntt
      refine ⟨tt, _, rfl, SqT.of upd_same, rfl, _, _, rfl, _, _, rfl, _, _, rfl, _, _, rfl, rfl, 1 + n1, R, P, B, ?_, sR.trans (sP.trans (sB.trans sT)), ⟨by omega, by omega⟩, nR, ?_, sT _ _ (sB _ _ (sP _ _ upd_same)), sT _ _ (sB _ _ upd_same), sT _ _ upd_same, fun z => ?_, fun z => ?_, fun z => ?_⟩
      · show [some (V.ref a), some (V.int se), some (V.int (1 + se % 4)), some (V.ref R), some (V.ref P), some (V.ref B), none, none, none, none] = _
        rw [e1]
        rfl
      · cases e : H1 B with
        | none => rfl
        | some o => rw [sP _ _ (sR _ _ e)] at nB; cases nB
      · rw [z, upd_same] at nP
        cases nP
      · rw [← z, upd_same] at nB
        cases nB
      · rw [z, sP _ _ upd_same] at nB
        cases nB
    rintro σ' H2 ⟨w, R, P, B, rfl, s2, hw, nR, nB, eR, eP, eB, hPR, hPB, hBR⟩
    refine ⟨fun σ' H' => ∃ (p d t u : Nat), σ' = [some (.ref a), some (.int se), some (.int w), some (.ref R), some (.ref P), some (.ref B), some (.ref p), none, none, none] ∧ UI A K H0 H' p d R P B w [] [] t u [] [] [] [], ?_, ?_⟩
    · refine ⟨_, rfl, rfl, rfl, fun x dx nx ndx nex => ⟨x, dx, w, rfl, hw, upd_same, fun H3 t u d k1 ndd Q3 => ⟨rfl, ?_⟩⟩⟩
      have s3 := new_same nx ndx k1
      have hd2 : H2 d = none := by
        cases e : H2 d with
        | none => rfl
        | some o =>
          exfalso
          have hdx : d ≠ x := fun z => by rw [z, nx] at e; cases e
          have hddx : d ≠ dx := fun z => by rw [z, ndx] at e; cases e
          first
            | (rw [upd_ne hddx, upd_ne hdx, e] at ndd; cases ndd)
            | (rw [upd_ne hdx, upd_ne hddx, e] at ndd; cases ndd)
      have hRd : R ≠ d := ne_of_none eR hd2
      have hPd : P ≠ d := ne_of_none eP hd2
      have hBd : B ≠ d := ne_of_none eB hd2
      have e01 : ExtN H0 H1 := by rw [eH0]; exact extN_of s1
      have e02 : ExtN H0 H2 := e01.trans (extN_of s2)
      refine ⟨x, d, t, u, rfl, Q3, ⟨hRd, s3 _ _ eR, fun z hz => absurd hz (List.not_mem_nil)⟩, GoodZ.nil w, fun e he => absurd he (List.not_mem_nil), s3 _ _ eP, .nil, ⟨hPd, hPR, hPB⟩, ((hT.ext s1).ext s2).ext s3, e02.trans (extN_of s3), ⟨NT.of e02 nx, NT.of e02 hd2, NT.of e01 nR, NT.of e01 nB⟩, ⟨hBd, hBR⟩, s3 _ _ eB, ⟨fun b hb => absurd hb (List.not_mem_nil), List.nodup_nil⟩, rfl, rfl⟩
    rintro σ' H4 ⟨p, d, t, u, rfl, U4⟩
    have ha : SqL K H0 a (ns.map V.int) := by rw [eH0]; exact ha
    clear eR eP eB nR nB hPR hPB hBR
    obtain ⟨nt, ent, hnt⟩ := emodN (se / 4) 21 (by decide)
    have ent : se / 4 % 21 = (nt : Int) := ent
    refine ⟨fun σ' H' => ∃ (R P t u : Nat) (x7 x8 x9 : Option V) (zs : List Zr) (es : List (Deed × List Pr)) (xs : List V) (bs : List Bk), σ' = [some (.ref a), some (.int se), some (.int w), some (.ref R), some (.ref P), some (.ref B), some (.ref p), x7, x8, x9] ∧ UI A K H0 H' p d R P B w zs es t u xs bs (es.map (·.1)) (es.map (·.2)) ∧ es.length ≤ 21, ?_, ?_⟩
    · refine ⟨_, rfl, _, _, rfl, rfl, ⟨by decide, by decide⟩, .inl ⟨_, rfl, _, _, rfl, rfl, by show (0 : Int) < 21; decide, nt, congrArg (fun z => [V.int z]) ent, by omega, by omega, ?_⟩⟩
      refine for_it (walk_range (lo := 0) (n := nt)) (fun i σ' H' => ∃ (R P t u : Nat) (x7 x8 x9 : Option V) (zs : List Zr) (es : List (Deed × List Pr)) (xs : List V) (bs : List Bk), σ' = [some (.ref a), some (.int se), some (.int w), some (.ref R), some (.ref P), some (.ref B), some (.ref p), x7, x8, x9] ∧ UI A K H0 H' p d R P B w zs es t u xs bs (es.map (·.1)) (es.map (·.2)) ∧ es.length ≤ i)
        ⟨R, P, t, u, none, none, none, [], [], [], [], rfl, U4, Nat.zero_le _⟩ (fun _ _ _ _ _ => trivial) ?_ (fun σ' H' ⟨R, P, t, u, x7, x8, x9, zs, es, xs, bs, e, U, l⟩ => ⟨R, P, t, u, x7, x8, x9, zs, es, xs, bs, e, U, by omega⟩)
      rintro i y σ' H5 H6 hi ⟨R, P, t, u, x7, x8, x9, zs, es, xs, bs, rfl, U5, hel⟩ ⟨rfl, ey⟩
      obtain rfl : y = V.int (i : Nat) := by
        rw [ey]
        show V.int (0 + (i : Int)) = _
        rw [Int.zero_add]
      refine ⟨fun σ' H' => ∃ (R P t u : Nat) (x8 x9 : Option V) (zs : List Zr) (es : List (Deed × List Pr)) (xs : List V) (bs : List Bk), σ' = [some (.ref a), some (.int se), some (.int w), some (.ref R), some (.ref P), some (.ref B), some (.ref p), some (.int i), x8, x9] ∧ UI A K H0 H' p d R P B w zs es t u xs bs (es.map (·.1)) (es.map (·.2)) ∧ es.length ≤ i + 1, ?_, ?_⟩
      · refine ⟨_, rfl, _, rfl, _, _, rfl, rfl, a, ns, 50 + i, congrArg (fun z => [V.ref a, V.int z]) (by omega), SqL.ext ha U5.ex, h63, by omega, fun Hb rb sb => .inl ⟨_, rfl, _, _, rfl, rfl, by show (0 : Int) < 4; decide, rfl, _, rfl, ?_⟩⟩
        have Ub := U5.same sb
        by_cases hx : V.int (rb % 4) = V.int 0
        · rw [decide_eq_true hx]
          refine iteT ⟨_, rfl, Nat.zero_le _, fun y ny => ?_⟩
          have sy := Same.up (o := .lst []) ny
          have ey : upd Hb y (.lst []) y = _ := upd_same
          have Uc := Ub.same sy
          generalize upd Hb y (.lst []) = Hc at sy ey Uc
          have hdl : ∀ e ∈ es.map (·.1), DeedOk e := fun e he => by
            obtain ⟨y, hy, rfl⟩ := List.mem_map.mp he
            exact Uc.dk y hy
          refine ⟨.list ((es.map (·.1)).map fun e => .tuple (dds e)), .list [], .lst (SqL.of Uc.pl) (deeds_dp Uc.pd), .lst (SqL.of ey) .nil, deeds_sh hdl, deeds_sh (ds := []) (fun e he => absurd he (List.not_mem_nil)), _, rfl, ?_⟩
          rw [deeds_emp]
          by_cases he : es = []
          · refine ite_b (c := false) (by rw [he]; rfl) (iteF ?_)
            refine ⟨fun σ' H' => ∃ (D : Nat) (de : Deed), σ' = [some (.ref a), some (.int se), some (.int w), some (.ref R), some (.ref P), some (.ref B), some (.ref p), some (.int i), some (.ref D), x9] ∧ UI A K H0 H' p d R P B w zs es t u xs bs (es.map (·.1)) (es.map (·.2)) ∧ H' D = some (.tup (dvs de)) ∧ ValidD zs de, ?_, ?_⟩
            · exact ⟨_, rfl, _, rfl, _, _, rfl, rfl, .inl ⟨by decide, by decide⟩, _, _, rfl, rfl, _, rfl, d, a, 3 + 2 * i, R, ns, zs, congrArg (fun z => [V.ref a, V.int z, V.ref R]) (by omega), SqL.ext ha Uc.ex, h63, by omega, Uc.r, Uc.g.wd, Uc.g.len, fun H7 D de s7 e7 v7 => ⟨D, de, rfl, Uc.same s7, e7, v7⟩⟩
            rintro σ' H7 ⟨D, de, rfl, U7, e7, v7⟩
            refine ⟨fun σ' H' => ∃ (x9 : Option V) (b : Bk), σ' = [some (.ref a), some (.int se), some (.int w), some (.ref R), some (.ref P), some (.ref B), some (.ref p), some (.int i), some (.ref D), x9] ∧ UI A K H0 H' p d R P B w zs es t u xs (bs ++ [b]) (es.map (·.1)) (es.map (·.2) ++ [prs zs]) ∧ H' D = some (.tup (dvs de)), ?_, ?_⟩
            · obtain ⟨ysd, hdd, _⟩ := id U7.q.dn
              refine ⟨_, rfl, .inl ⟨rfl, _, SqL.of U7.bl⟩, _, rfl, R, rfl, ⟨_, SqL.of U7.r.a⟩, fun L nL => ?_⟩
              refine lc_it (walk_list (xs := zs.map fun z => V.ref z.1)) (fun j H' => ∃ zs2 : List Zr, prs zs2 = (prs zs).take j ∧ (∀ z ∈ zs2, z.1 ≠ d ∧ z.1 ≠ L ∧ H' z.1 = some (.lst [.int z.2.1, .str z.2.2])) ∧ Acc H7 L (zs2.map fun z => V.ref z.1) H') ⟨[], rfl, fun z hz => absurd hz (List.not_mem_nil), Acc.start nL⟩ (fun j H' _ ⟨_, _, _, ac⟩ => ac.s.seq (SqL.of U7.r.a)) ?_ ?_
              · rintro j x Hx Hy hj ⟨zs2, e2, hz2, ac⟩ ⟨rfl, ex⟩
                have hj2 : j < zs.length := by rw [List.length_map] at hj; exact hj
                obtain rfl : x = V.ref zs[j].1 := by
                  rw [List.getElem?_map, List.getElem?_eq_getElem hj2] at ex
                  exact (Option.some.inj ex).symm
                have it := ((U7.r.same ac.s).it _ (List.getElem_mem hj2)).2.2
                refine ⟨rfl, _, rfl, _, _, rfl, .inl (SqL.of it), fun l nl => ?_⟩
                have s9 := Same.up (o := .lst [V.int zs[j].2.1, V.str zs[j].2.2]) nl
                have el : upd Hy l (.lst [V.int zs[j].2.1, V.str zs[j].2.2]) l = _ := upd_same
                have ac2 := ac.same s9
                have hld : l ≠ d := fun z => by rw [z, ac.s _ _ hdd] at nl; cases nl
                have hlL : l ≠ L := fun z => by rw [z, ac.a] at nl; cases nl
                generalize upd Hy l (.lst [V.int zs[j].2.1, V.str zs[j].2.2]) = Hz at s9 el ac2
                have hzl : zs2.length = j := by
                  have := congrArg List.length e2
                  rw [prs_len, List.length_take, prs_len] at this
                  omega
                have hl12 := U7.g.len
                refine ⟨_, ac2.a, small1000 (by rw [List.length_map]; omega), zs2 ++ [(l, zs[j].2)], ?_, fun z hz => ?_, ?_⟩
                · have e3 : prs (zs2 ++ [(l, zs[j].2)]) = prs zs2 ++ [zs[j].2] := by unfold prs; rw [List.map_append]; rfl
                  rw [e3, e2, ← List.take_append_getElem (by rw [prs_len]; exact hj2)]
                  unfold prs
                  rw [List.getElem_map]
                · rcases List.mem_append.mp hz with h | h
                  · obtain ⟨h1, h2, h4⟩ := hz2 z h
                    exact ⟨h1, h2, by rw [upd_ne h2]; exact s9 _ _ h4⟩
                  · rw [List.mem_singleton.mp h]
                    exact ⟨hld, hlL, by rw [upd_ne hlL]; exact el⟩
                · rw [List.map_append]
                  exact ac2.push
              · rintro H8 ⟨zs2, e2, hz2, ac⟩
                rw [List.length_map, ← prs_len, List.take_length] at e2
                have U8 := U7.same ac.s
                have hbl := U7.bsl
                have e8 := ac.s _ _ e7
                have hLB : L ≠ B := fun z => by rw [z, U7.bl] at nL; cases nL
                have hLR : L ≠ R := fun z => by rw [z, U7.r.a] at nL; cases nL
                have hLd : L ≠ d := fun z => by rw [z, hdd] at nL; cases nL
                refine ⟨B, _, _, rfl, rfl, U8.bl, small1000 (by rw [List.length_map]; omega), ?_⟩
                have e3 : (bs.map fun b => V.ref b.1) ++ [V.ref L] = (bs ++ [(L, zs2)]).map fun b => V.ref b.1 := by rw [List.map_append]; rfl
                rw [e3]
                have f4 : Fr4 p d R B H8 (upd H8 B (.lst ((bs ++ [(L, zs2)]).map fun b => V.ref b.1))) := Fr4.put _
                have hB : ∀ c o, H8 c = some o → c ≠ B → upd H8 B (.lst ((bs ++ [(L, zs2)]).map fun b => V.ref b.1)) c = some o := fun c o h n => (upd_ne n).trans h
                obtain ⟨dx, fs, hx⟩ := U8.q.ins
                have eD : upd H8 B (.lst ((bs ++ [(L, zs2)]).map fun b => V.ref b.1)) D = _ := hB _ _ e8 (ne_of e8 U8.bl (by intro z; cases z))
                have g2 : GoodZ w zs2 := by
                  have ek : kz zs2 = kz zs := by unfold kz; rw [e2]
                  refine ⟨?_, fun z hz => ?_, by rw [e2]; exact U8.g.nd, by rw [e2]; exact U8.g.kb, by rw [ek]; exact U8.g.hp⟩
                  · have := congrArg List.length e2
                    rw [prs_len, prs_len] at this
                    have := U8.g.len
                    omega
                  · have : z.2.2 ∈ names (prs zs2) := by rw [names_prs]; exact List.mem_map.mpr ⟨z, hz, rfl⟩
                    rw [e2] at this
                    exact word_of U8.g.wd this
                have bk8 := U8.bk.fr f4 hx U8.r.a U8.bl
                refine ⟨_, (L, zs2), rfl, ⟨U8.q.fz (U8.fzr f4) (fun o h => hB _ _ h (fun z => by have k := U8.bl; rw [← z, hx] at k; cases k)) (fun o h => hB _ _ h (fun z => U8.bn.1 z.symm)), ⟨U8.r.nd, hB _ _ U8.r.a (fun z => U8.bn.2 z.symm), fun z hz => ?_⟩, U8.g, U8.dk, hB _ _ U8.pl U8.pn.2.2, U8.pd.fz (U8.fzr f4), U8.pn, tabs_putL U8.tb U8.bl, U8.extf f4, U8.n0, U8.bn, upd_same, ⟨fun b hb => ?_, ?_⟩, ?_, U8.st⟩, eD⟩
                · obtain ⟨h1, h2, h3⟩ := U8.r.it z hz
                  exact ⟨h1, h2, hB _ _ h3 (pair_ne h3 U8.bl)⟩
                · rcases List.mem_append.mp hb with h | h
                  · exact bk8.it b h
                  · rw [List.mem_singleton.mp h]
                    refine ⟨⟨hLd, hB _ _ ac.a hLB, fun z hz => ?_⟩, g2, hLR, hLB, NT.of U7.ex nL⟩
                    obtain ⟨h1, h2, h3⟩ := hz2 z hz
                    exact ⟨h1, h2, hB _ _ h3 (pair_ne h3 U8.bl)⟩
                · rw [List.map_append, List.map_singleton, List.nodup_append]
                  refine ⟨U7.bk.nd, by simp, fun x hx y hy => ?_⟩
                  obtain ⟨b, hb, rfl⟩ := List.mem_map.mp hx
                  rw [List.mem_singleton.mp hy]
                  exact fun z => by
                    have := (U7.bk.it b hb).1.a
                    rw [z, nL] at this
                    cases this
                · rw [List.map_append, U8.be, List.map_singleton, e2]
            rintro σ' H9 ⟨x9, b, rfl, U9, e9⟩
            refine ⟨fun σ' H' => ∃ (t' u' : Nat) (zs' : List Zr), σ' = [some (.ref a), some (.int se), some (.int w), some (.ref R), some (.ref P), some (.ref B), some (.ref p), some (.int i), some (.ref D), x9] ∧ UI A K H0 H' p d R P B w zs' (es ++ [(de, prs zs)]) t' u' xs (bs ++ [b]) (es.map (·.1)) ((es ++ [(de, prs zs)]).map (·.2)) ∧ H' D = some (.tup (dvs de)), ?_, ?_⟩
            · refine ⟨_, rfl, _, rfl, _, rfl, _, rfl, p, w, t, u, d, 0, R, D, zs, es, de, rfl, U9.q, U9.r, e9, hw, U9.g, v7, by omega, U9.tb, fun H10 zs' t' u' f8 T8 Q8 r8 g8 => ⟨_, rfl, iteF ⟨t', u', zs', rfl, ?_, ?_⟩⟩⟩
              · have := U9.done f8 T8 Q8 r8 g8 (v7.ok U9.g.wd)
                rw [List.map_append (f := fun e : Deed × List Pr => e.2)]
                exact this
              · obtain ⟨dx, fs, hx⟩ := U9.q.ins
                obtain ⟨ys, hd1, _⟩ := U9.q.dn
                exact f8 _ _ e9 (fun _ z => nomatch z) (ne_of e9 hx (by intro z; cases z)) (ne_of e9 hd1 (by intro z; cases z)) (ne_of e9 U9.r.a (by intro z; cases z))
            rintro σ' H10 ⟨t', u', zs', rfl, U10, e10⟩
            refine ⟨_, rfl, _, rfl, by show 1 ≤ sizeLine; decide, fun l nl => ?_⟩
            have s9 := Same.up (o := .lst [V.ref D]) nl
            have hxl := U10.pd.len
            rw [List.length_map] at hxl
            refine ⟨P, l, _, _, rfl, rfl, s9 _ _ U10.pl, upd_same, by rw [hxl, List.length_singleton, sizeLine_eq]; omega, fun P' nP' => ?_⟩
            have s10 := s9.trans (Same.up (o := .lst (xs ++ [V.ref D])) nP')
            obtain ⟨ys, hd1, _⟩ := U10.q.dn
            have U12 := U10.same s10
            refine ⟨R, P', t', u', _, _, zs', es ++ [(de, prs zs)], xs ++ [V.ref D], bs ++ [b], rfl, ⟨U12.q, U12.r, U12.g, U12.dk, upd_same, ?_, ⟨fun z => ?_, fun z => ?_, fun z => ?_⟩, U12.tb, U12.ex, U12.n0, U12.bn, U12.bl, U12.bk, U12.be, U12.st⟩, by rw [List.length_append, List.length_singleton]; omega⟩
            · rw [List.map_append]
              exact U12.pd.snoc (s10 _ _ e10)
            · rw [z, s9 _ _ hd1] at nP'
              cases nP'
            · rw [z, s9 _ _ U10.r.a] at nP'
              cases nP'
            · rw [z, s9 _ _ U10.bl] at nP'
              cases nP'
          · refine ite_b (c := true) (by rw [decide_eq_false (fun z => he (List.map_eq_nil_iff.mp z))]; rfl) (iteT ?_)
            obtain ⟨es0, ⟨de, ps0⟩, rfl⟩ := snoc_of he
            have hxp := Uc.pd
            rw [List.map_append, List.map_singleton] at hxp
            obtain ⟨ys, bb, exs, pd1, pd2⟩ := deeds_last hxp
            have hdo : DeedOk de := Uc.dk (de, ps0) (List.mem_append.mpr (.inr (List.mem_singleton.mpr rfl)))
            have hsd := deed_sh hdo
            obtain ⟨dxc, fsc, hxc⟩ := Uc.q.ins
            obtain ⟨ysc, hdc, _⟩ := Uc.q.dn
            refine ⟨fun σ' H' => σ' = [some (.ref a), some (.int se), some (.int w), some (.ref R), some (.ref P), some (.ref B), some (.ref p), some (.int i), x8, x9] ∧ ∃ t' u' : Nat, Fr p d Hc H' ∧ Tabs (TT A) H' ∧ QAt A.CJ H' p w t' u' d 0 ps0 es0, ?_, ?_⟩
            · refine ⟨_, rfl, p, w, t, u, d, _, _, rfl, Uc.q, by omega, .inr ⟨es0, de, ps0, rfl, fun H1 t1 u1 e1 f1 tt1 he1 Q1 => ?_⟩⟩
              have pl1 := f1 _ _ Uc.pl (fun _ z => nomatch z) (ne_of Uc.pl hxc (by intro z; cases z)) Uc.pn.1
              have pd21 := f1 _ _ pd2 (fun _ z => nomatch z) (ne_of pd2 hxc (by intro z; cases z)) (ne_of pd2 hdc (by intro z; cases z))
              refine ⟨_, rfl, _, rfl, P, _, _, _, rfl, rfl, SqL.of pl1, by rw [exs]; exact last_at, .tuple (dds de), .tuple (dds de), deed_dp he1, deed_dp pd21, hsd, hsd, _, rfl, ?_⟩
              rw [sh_refl hsd]
              exact iteF ⟨rfl, t1, u1, f1, tt1 _ Uc.tb, Q1⟩
            rintro σ' H1 ⟨rfl, t1, u1, f1, T1, Q1⟩
            have hbne : bs ≠ [] := fun z => by
              have := Uc.bsl
              rw [z, List.length_append, List.length_singleton] at this
              simp at this
            obtain ⟨R', eR'⟩ := bs_last hbne
            have bl1 := f1 _ _ Uc.bl (fun _ z => nomatch z) (ne_of Uc.bl hxc (by intro z; cases z)) Uc.bn.1
            have pl1 := f1 _ _ Uc.pl (fun _ z => nomatch z) (ne_of Uc.pl hxc (by intro z; cases z)) Uc.pn.1
            refine ⟨_, rfl, .inl ⟨rfl, _, SqL.of bl1⟩, B, _, _, rfl, rfl, bl1, eR', ?_⟩
            rw [← List.map_dropLast]
            have pl2 : upd H1 B (.lst ((bs.dropLast).map fun b => V.ref b.1)) P = _ := (upd_ne Uc.pn.2.2).trans pl1
            refine ⟨_, rfl, _, rfl, _, rfl, P, _, rfl, SqL.of pl2, fun l nl => ⟨_, _, rfl, ?_⟩⟩
            have hxl1 : 1 ≤ xs.length := by rw [exs, List.length_append, List.length_singleton]; omega
            rw [cutv_init hxl1]
            obtain ⟨R2, zs2, e2, U2⟩ := Uc.pop f1 T1 Q1 rfl nl rfl
            obtain rfl : R' = R2 := by
              have := eR'.symm.trans e2
              injection Option.some.inj this
            exact ⟨R', l, t1, u1, _, _, zs2, es0, xs.dropLast, bs.dropLast, rfl, U2, by rw [List.length_append, List.length_singleton] at hel; omega⟩
        · rw [decide_eq_false hx]
          refine iteF ?_
          have Uc := Ub
          refine ⟨fun σ' H' => ∃ (D : Nat) (de : Deed), σ' = [some (.ref a), some (.int se), some (.int w), some (.ref R), some (.ref P), some (.ref B), some (.ref p), some (.int i), some (.ref D), x9] ∧ UI A K H0 H' p d R P B w zs es t u xs bs (es.map (·.1)) (es.map (·.2)) ∧ H' D = some (.tup (dvs de)) ∧ ValidD zs de, ?_, ?_⟩
          · exact ⟨_, rfl, _, rfl, _, _, rfl, rfl, .inl ⟨by decide, by decide⟩, _, _, rfl, rfl, _, rfl, d, a, 3 + 2 * i, R, ns, zs, congrArg (fun z => [V.ref a, V.int z, V.ref R]) (by omega), SqL.ext ha Uc.ex, h63, by omega, Uc.r, Uc.g.wd, Uc.g.len, fun H7 D de s7 e7 v7 => ⟨D, de, rfl, Uc.same s7, e7, v7⟩⟩
          rintro σ' H7 ⟨D, de, rfl, U7, e7, v7⟩
          refine ⟨fun σ' H' => ∃ (x9 : Option V) (b : Bk), σ' = [some (.ref a), some (.int se), some (.int w), some (.ref R), some (.ref P), some (.ref B), some (.ref p), some (.int i), some (.ref D), x9] ∧ UI A K H0 H' p d R P B w zs es t u xs (bs ++ [b]) (es.map (·.1)) (es.map (·.2) ++ [prs zs]) ∧ H' D = some (.tup (dvs de)), ?_, ?_⟩
          · obtain ⟨ysd, hdd, _⟩ := id U7.q.dn
            refine ⟨_, rfl, .inl ⟨rfl, _, SqL.of U7.bl⟩, _, rfl, R, rfl, ⟨_, SqL.of U7.r.a⟩, fun L nL => ?_⟩
            refine lc_it (walk_list (xs := zs.map fun z => V.ref z.1)) (fun j H' => ∃ zs2 : List Zr, prs zs2 = (prs zs).take j ∧ (∀ z ∈ zs2, z.1 ≠ d ∧ z.1 ≠ L ∧ H' z.1 = some (.lst [.int z.2.1, .str z.2.2])) ∧ Acc H7 L (zs2.map fun z => V.ref z.1) H') ⟨[], rfl, fun z hz => absurd hz (List.not_mem_nil), Acc.start nL⟩ (fun j H' _ ⟨_, _, _, ac⟩ => ac.s.seq (SqL.of U7.r.a)) ?_ ?_
            · rintro j x Hx Hy hj ⟨zs2, e2, hz2, ac⟩ ⟨rfl, ex⟩
              have hj2 : j < zs.length := by rw [List.length_map] at hj; exact hj
              obtain rfl : x = V.ref zs[j].1 := by
                rw [List.getElem?_map, List.getElem?_eq_getElem hj2] at ex
                exact (Option.some.inj ex).symm
              have it := ((U7.r.same ac.s).it _ (List.getElem_mem hj2)).2.2
              refine ⟨rfl, _, rfl, _, _, rfl, .inl (SqL.of it), fun l nl => ?_⟩
              have s9 := Same.up (o := .lst [V.int zs[j].2.1, V.str zs[j].2.2]) nl
              have el : upd Hy l (.lst [V.int zs[j].2.1, V.str zs[j].2.2]) l = _ := upd_same
              have ac2 := ac.same s9
              have hld : l ≠ d := fun z => by rw [z, ac.s _ _ hdd] at nl; cases nl
              have hlL : l ≠ L := fun z => by rw [z, ac.a] at nl; cases nl
              generalize upd Hy l (.lst [V.int zs[j].2.1, V.str zs[j].2.2]) = Hz at s9 el ac2
              have hzl : zs2.length = j := by
                have := congrArg List.length e2
                rw [prs_len, List.length_take, prs_len] at this
                omega
              have hl12 := U7.g.len
              refine ⟨_, ac2.a, small1000 (by rw [List.length_map]; omega), zs2 ++ [(l, zs[j].2)], ?_, fun z hz => ?_, ?_⟩
              · have e3 : prs (zs2 ++ [(l, zs[j].2)]) = prs zs2 ++ [zs[j].2] := by unfold prs; rw [List.map_append]; rfl
                rw [e3, e2, ← List.take_append_getElem (by rw [prs_len]; exact hj2)]
                unfold prs
                rw [List.getElem_map]
              · rcases List.mem_append.mp hz with h | h
                · obtain ⟨h1, h2, h4⟩ := hz2 z h
                  exact ⟨h1, h2, by rw [upd_ne h2]; exact s9 _ _ h4⟩
                · rw [List.mem_singleton.mp h]
                  exact ⟨hld, hlL, by rw [upd_ne hlL]; exact el⟩
              · rw [List.map_append]
                exact ac2.push
            · rintro H8 ⟨zs2, e2, hz2, ac⟩
              rw [List.length_map, ← prs_len, List.take_length] at e2
              have U8 := U7.same ac.s
              have hbl := U7.bsl
              have e8 := ac.s _ _ e7
              have hLB : L ≠ B := fun z => by rw [z, U7.bl] at nL; cases nL
              have hLR : L ≠ R := fun z => by rw [z, U7.r.a] at nL; cases nL
              have hLd : L ≠ d := fun z => by rw [z, hdd] at nL; cases nL
              refine ⟨B, _, _, rfl, rfl, U8.bl, small1000 (by rw [List.length_map]; omega), ?_⟩
              have e3 : (bs.map fun b => V.ref b.1) ++ [V.ref L] = (bs ++ [(L, zs2)]).map fun b => V.ref b.1 := by rw [List.map_append]; rfl
              rw [e3]
              have f4 : Fr4 p d R B H8 (upd H8 B (.lst ((bs ++ [(L, zs2)]).map fun b => V.ref b.1))) := Fr4.put _
              have hB : ∀ c o, H8 c = some o → c ≠ B → upd H8 B (.lst ((bs ++ [(L, zs2)]).map fun b => V.ref b.1)) c = some o := fun c o h n => (upd_ne n).trans h
              obtain ⟨dx, fs, hx⟩ := U8.q.ins
              have eD : upd H8 B (.lst ((bs ++ [(L, zs2)]).map fun b => V.ref b.1)) D = _ := hB _ _ e8 (ne_of e8 U8.bl (by intro z; cases z))
              have g2 : GoodZ w zs2 := by
                have ek : kz zs2 = kz zs := by unfold kz; rw [e2]
                refine ⟨?_, fun z hz => ?_, by rw [e2]; exact U8.g.nd, by rw [e2]; exact U8.g.kb, by rw [ek]; exact U8.g.hp⟩
                · have := congrArg List.length e2
                  rw [prs_len, prs_len] at this
                  have := U8.g.len
                  omega
                · have : z.2.2 ∈ names (prs zs2) := by rw [names_prs]; exact List.mem_map.mpr ⟨z, hz, rfl⟩
                  rw [e2] at this
                  exact word_of U8.g.wd this
              have bk8 := U8.bk.fr f4 hx U8.r.a U8.bl
              refine ⟨_, (L, zs2), rfl, ⟨U8.q.fz (U8.fzr f4) (fun o h => hB _ _ h (fun z => by have k := U8.bl; rw [← z, hx] at k; cases k)) (fun o h => hB _ _ h (fun z => U8.bn.1 z.symm)), ⟨U8.r.nd, hB _ _ U8.r.a (fun z => U8.bn.2 z.symm), fun z hz => ?_⟩, U8.g, U8.dk, hB _ _ U8.pl U8.pn.2.2, U8.pd.fz (U8.fzr f4), U8.pn, tabs_putL U8.tb U8.bl, U8.extf f4, U8.n0, U8.bn, upd_same, ⟨fun b hb => ?_, ?_⟩, ?_, U8.st⟩, eD⟩
              · obtain ⟨h1, h2, h3⟩ := U8.r.it z hz
                exact ⟨h1, h2, hB _ _ h3 (pair_ne h3 U8.bl)⟩
              · rcases List.mem_append.mp hb with h | h
                · exact bk8.it b h
                · rw [List.mem_singleton.mp h]
                  refine ⟨⟨hLd, hB _ _ ac.a hLB, fun z hz => ?_⟩, g2, hLR, hLB, NT.of U7.ex nL⟩
                  obtain ⟨h1, h2, h3⟩ := hz2 z hz
                  exact ⟨h1, h2, hB _ _ h3 (pair_ne h3 U8.bl)⟩
              · rw [List.map_append, List.map_singleton, List.nodup_append]
                refine ⟨U7.bk.nd, by simp, fun x hx y hy => ?_⟩
                obtain ⟨b, hb, rfl⟩ := List.mem_map.mp hx
                rw [List.mem_singleton.mp hy]
                exact fun z => by
                  have := (U7.bk.it b hb).1.a
                  rw [z, nL] at this
                  cases this
              · rw [List.map_append, U8.be, List.map_singleton, e2]
          rintro σ' H9 ⟨x9, b, rfl, U9, e9⟩
          refine ⟨fun σ' H' => ∃ (t' u' : Nat) (zs' : List Zr), σ' = [some (.ref a), some (.int se), some (.int w), some (.ref R), some (.ref P), some (.ref B), some (.ref p), some (.int i), some (.ref D), x9] ∧ UI A K H0 H' p d R P B w zs' (es ++ [(de, prs zs)]) t' u' xs (bs ++ [b]) (es.map (·.1)) ((es ++ [(de, prs zs)]).map (·.2)) ∧ H' D = some (.tup (dvs de)), ?_, ?_⟩
          · refine ⟨_, rfl, _, rfl, _, rfl, _, rfl, p, w, t, u, d, 0, R, D, zs, es, de, rfl, U9.q, U9.r, e9, hw, U9.g, v7, by omega, U9.tb, fun H10 zs' t' u' f8 T8 Q8 r8 g8 => ⟨_, rfl, iteF ⟨t', u', zs', rfl, ?_, ?_⟩⟩⟩
            · have := U9.done f8 T8 Q8 r8 g8 (v7.ok U9.g.wd)
              rw [List.map_append (f := fun e : Deed × List Pr => e.2)]
              exact this
            · obtain ⟨dx, fs, hx⟩ := U9.q.ins
              obtain ⟨ys, hd1, _⟩ := U9.q.dn
              exact f8 _ _ e9 (fun _ z => nomatch z) (ne_of e9 hx (by intro z; cases z)) (ne_of e9 hd1 (by intro z; cases z)) (ne_of e9 U9.r.a (by intro z; cases z))
          rintro σ' H10 ⟨t', u', zs', rfl, U10, e10⟩
          refine ⟨_, rfl, _, rfl, by show 1 ≤ sizeLine; decide, fun l nl => ?_⟩
          have s9 := Same.up (o := .lst [V.ref D]) nl
          have hxl := U10.pd.len
          rw [List.length_map] at hxl
          refine ⟨P, l, _, _, rfl, rfl, s9 _ _ U10.pl, upd_same, by rw [hxl, List.length_singleton, sizeLine_eq]; omega, fun P' nP' => ?_⟩
          have s10 := s9.trans (Same.up (o := .lst (xs ++ [V.ref D])) nP')
          obtain ⟨ys, hd1, _⟩ := U10.q.dn
          have U12 := U10.same s10
          refine ⟨R, P', t', u', _, _, zs', es ++ [(de, prs zs)], xs ++ [V.ref D], bs ++ [b], rfl, ⟨U12.q, U12.r, U12.g, U12.dk, upd_same, ?_, ⟨fun z => ?_, fun z => ?_, fun z => ?_⟩, U12.tb, U12.ex, U12.n0, U12.bn, U12.bl, U12.bk, U12.be, U12.st⟩, by rw [List.length_append, List.length_singleton]; omega⟩
          · rw [List.map_append]
            exact U12.pd.snoc (s10 _ _ e10)
          · rw [z, s9 _ _ hd1] at nP'
            cases nP'
          · rw [z, s9 _ _ U10.r.a] at nP'
            cases nP'
          · rw [z, s9 _ _ U10.bl] at nP'
            cases nP'
      rintro σ' H7 ⟨R, P, t, u, x8, x9, zs, es, xs, bs, rfl, U7, hel7⟩
      exact ⟨_, rfl, _, rfl, _, rfl, p, w, t, u, d, 0, R, P, zs, es, xs, rfl, U7.q, U7.r, U7.pl, U7.pd, U7.dk, U7.g.wd, U7.g.nd, U7.g.len, by omega, fun H8 s8 => ⟨_, rfl, iteF ⟨R, P, t, u, _, x8, x9, zs, es, xs, bs, rfl, U7.same s8, hel7⟩⟩⟩
    rintro σ' H5 ⟨R, P, t, u, x7, x8, x9, zs, es, xs, bs, rfl, U5, hel5⟩
    refine ⟨fun σ' H' => ∃ (R P t u : Nat) (x7 x8 x9 : Option V) (xs : List V), σ' = [some (.ref a), some (.int se), some (.int w), some (.ref R), some (.ref P), some (.ref B), some (.ref p), x7, x8, x9] ∧ UI A K H0 H' p d R P B w [] [] t u xs [] [] [], ?_, ?_⟩
    · refine while_by (fun σ' H' => ∃ (R P t u : Nat) (x7 x8 x9 : Option V) (zs : List Zr) (es : List (Deed × List Pr)) (xs : List V) (bs : List Bk), σ' = [some (.ref a), some (.int se), some (.int w), some (.ref R), some (.ref P), some (.ref B), some (.ref p), x7, x8, x9] ∧ UI A K H0 H' p d R P B w zs es t u xs bs (es.map (·.1)) (es.map (·.2)) ∧ es.length ≤ 21)
        (fun σ' H' => lenS σ' H') ⟨R, P, t, u, x7, x8, x9, zs, es, xs, bs, rfl, U5, hel5⟩ ?_ ?_
      · rintro σ' Hb ⟨R, P, t, u, x7, x8, x9, zs, es, xs, bs, rfl, Ub, hel⟩
        refine ⟨_, rfl, Nat.zero_le _, fun y ny => ?_⟩
        have sy := Same.up (o := .lst []) ny
        have ey : upd Hb y (.lst []) y = _ := upd_same
        have Uc := Ub.same sy
        have plb := Ub.pl
        generalize upd Hb y (.lst []) = Hc at sy ey Uc
        have hdl : ∀ e ∈ es.map (·.1), DeedOk e := fun e he => by
          obtain ⟨y, hy, rfl⟩ := List.mem_map.mp he
          exact Uc.dk y hy
        refine ⟨.list ((es.map (·.1)).map fun e => .tuple (dds e)), .list [], .lst (SqL.of Uc.pl) (deeds_dp Uc.pd), .lst (SqL.of ey) .nil, deeds_sh hdl, deeds_sh (ds := []) (fun e he => absurd he (List.not_mem_nil)), _, rfl, ?_⟩
        rw [deeds_emp]
        by_cases he : es = []
        · subst he
          have e1 : bs = [] := List.length_eq_zero_iff.mp Uc.bsl
          have e2 : zs = [] := by
            have := Uc.st
            have e3 : prs zs = [] := Option.some.inj this
            exact List.map_eq_nil_iff.mp e3
          subst e1
          subst e2
          exact ite_b (c := false) rfl (iteF ⟨R, P, t, u, x7, x8, x9, xs, rfl, Uc⟩)
        · refine ite_b (c := true) (by rw [decide_eq_false (fun z => he (List.map_eq_nil_iff.mp z))]; rfl) (iteT ?_)
          obtain ⟨es0, ⟨de, ps0⟩, rfl⟩ := snoc_of he
          have hxp := Uc.pd
          rw [List.map_append, List.map_singleton] at hxp
          obtain ⟨ys, bb, exs, pd1, pd2⟩ := deeds_last hxp
          have hdo : DeedOk de := Uc.dk (de, ps0) (List.mem_append.mpr (.inr (List.mem_singleton.mpr rfl)))
          have hsd := deed_sh hdo
          obtain ⟨dxc, fsc, hxc⟩ := Uc.q.ins
          obtain ⟨ysc, hdc, _⟩ := Uc.q.dn
          refine ⟨fun σ' H' => σ' = [some (.ref a), some (.int se), some (.int w), some (.ref R), some (.ref P), some (.ref B), some (.ref p), x7, x8, x9] ∧ ∃ t' u' : Nat, Fr p d Hc H' ∧ Tabs (TT A) H' ∧ QAt A.CJ H' p w t' u' d 0 ps0 es0, ?_, ?_⟩
          · refine ⟨_, rfl, p, w, t, u, d, _, _, rfl, Uc.q, by omega, .inr ⟨es0, de, ps0, rfl, fun H1 t1 u1 e1 f1 tt1 he1 Q1 => ?_⟩⟩
            have pl1 := f1 _ _ Uc.pl (fun _ z => nomatch z) (ne_of Uc.pl hxc (by intro z; cases z)) Uc.pn.1
            have pd21 := f1 _ _ pd2 (fun _ z => nomatch z) (ne_of pd2 hxc (by intro z; cases z)) (ne_of pd2 hdc (by intro z; cases z))
            refine ⟨_, rfl, _, rfl, P, _, _, _, rfl, rfl, SqL.of pl1, by rw [exs]; exact last_at, .tuple (dds de), .tuple (dds de), deed_dp he1, deed_dp pd21, hsd, hsd, _, rfl, ?_⟩
            rw [sh_refl hsd]
            exact iteF ⟨rfl, t1, u1, f1, tt1 _ Uc.tb, Q1⟩
          rintro σ' H1 ⟨rfl, t1, u1, f1, T1, Q1⟩
          have hbne : bs ≠ [] := fun z => by
            have := Uc.bsl
            rw [z, List.length_append, List.length_singleton] at this
            simp at this
          obtain ⟨R', eR'⟩ := bs_last hbne
          have bl1 := f1 _ _ Uc.bl (fun _ z => nomatch z) (ne_of Uc.bl hxc (by intro z; cases z)) Uc.bn.1
          have pl1 := f1 _ _ Uc.pl (fun _ z => nomatch z) (ne_of Uc.pl hxc (by intro z; cases z)) Uc.pn.1
          refine ⟨fun σ' H' => ∃ (R P t u : Nat) (zs : List Zr) (xs' : List V) (bs : List Bk), σ' = [some (.ref a), some (.int se), some (.int w), some (.ref R), some (.ref P), some (.ref B), some (.ref p), x7, x8, x9] ∧ UI A K H0 H' p d R P B w zs es0 t u xs' bs (es0.map (·.1)) (es0.map (·.2)) ∧ xs'.length + 1 ≤ xs.length, ?_, ?_⟩
          · refine ⟨_, rfl, .inl ⟨rfl, _, SqL.of bl1⟩, B, _, _, rfl, rfl, bl1, eR', ?_⟩
            rw [← List.map_dropLast]
            have pl2 : upd H1 B (.lst ((bs.dropLast).map fun b => V.ref b.1)) P = _ := (upd_ne Uc.pn.2.2).trans pl1
            refine ⟨_, rfl, _, rfl, _, rfl, P, _, rfl, SqL.of pl2, fun l nl => ⟨_, _, rfl, ?_⟩⟩
            have hxl1 : 1 ≤ xs.length := by rw [exs, List.length_append, List.length_singleton]; omega
            rw [cutv_init hxl1]
            obtain ⟨R2, zs2, e2, U2⟩ := Uc.pop f1 T1 Q1 rfl nl rfl
            obtain rfl : R' = R2 := by
              have := eR'.symm.trans e2
              injection Option.some.inj this
            exact ⟨R', l, t1, u1, zs2, xs.dropLast, bs.dropLast, rfl, U2, by rw [List.length_dropLast]; omega⟩
          rintro σ' H7 ⟨R3, P3, t3, u3, zs3, xs3, bs3, rfl, U7, hx7⟩
          rw [List.length_append, List.length_singleton] at hel
          refine ⟨_, rfl, _, rfl, _, rfl, p, w, t3, u3, d, 0, R3, P3, zs3, es0, xs3, rfl, U7.q, U7.r, U7.pl, U7.pd, U7.dk, U7.g.wd, U7.g.nd, U7.g.len, by omega, fun H8 s8 => ⟨_, rfl, iteF ⟨⟨R3, P3, t3, u3, x7, x8, x9, zs3, es0, xs3, bs3, rfl, U7.same s8, by omega⟩, ?_⟩⟩⟩
          show lenL H8 P3 < lenL Hb P
          rw [lenL_at plb, lenL_at (s8 _ _ U7.pl)]
          omega
      · rintro σ' H8 Q1 Q2 mono ⟨x, hx, hl, f⟩
        exact ⟨x, hx, hl, fun y ny => let ⟨d1, d2, a, b, c, e, k, hk, z⟩ := f y ny; ⟨d1, d2, a, b, c, e, k, hk, mono _ _ z⟩⟩
    rintro σ' H6 ⟨R, P, t, u, x7, x8, x9, xs, rfl, U6⟩
    refine ⟨_, rfl, p, w, t, u, d, _, _, rfl, U6.q, Nat.zero_le _, .inl ⟨rfl, ?_⟩⟩
    refine ⟨rfl, _, rfl, ite_b (c := true) (by exact decide_eq_true rfl) (iteT ?_)⟩
    refine fun x dx nx ndx nex => ⟨x, dx, 2, rfl, by decide, upd_same, fun H7 t7 u7 d7 k7 nd7 Q7 => ⟨rfl, ?_⟩⟩
    have s7 := new_same nx ndx k7
    refine ⟨x, 2, t7, u7, d7, _, _, rfl, Q7, Nat.zero_le _, .inl ⟨rfl, ?_⟩⟩
    refine ⟨rfl, _, rfl, ite_b (c := true) (by exact decide_eq_true rfl) (iteT ?_)⟩
    have U7 := U6.same s7
    refine ⟨_, rfl, Nat.zero_le _, fun R8 nR8 => ⟨Nat.zero_le _, fun P8 nP8 => ?_⟩⟩
    have sA := Same.up (o := .lst []) nR8
    have sB := Same.up (o := .lst []) nP8
    have U8 := (U7.same sA).same sB
    obtain ⟨ysd, hdd, _⟩ := id U7.q.dn
    exact ⟨p, w, t, u, d, 0, R8, P8, [], [], [], rfl, U8.q, ⟨(fun z => by rw [z, hdd] at nR8; cases nR8), sB _ _ upd_same, fun z hz => absurd hz (List.not_mem_nil)⟩, upd_same, .nil, fun e he => absurd he (List.not_mem_nil), fun z hz => absurd hz (List.not_mem_nil), List.nodup_nil, Nat.zero_le _, Nat.zero_le _, fun H9 s9 => q H9⟩
theorem b_law (T : Tx K mg A) : True := trivial

end
end Tw

set_option Elab.async false
set_option linter.all false
set_option maxRecDepth 100000
set_option maxHeartbeats 2000000
namespace Tw
open PySem PySem.Spec PyProof.Rows L2
theorem kit_no {K : PySem.W.Frag} {C : Addr} {t : String} (hc : PySem.W.isClsIn K C = true) (ht : PySem.W.typeIn K (.ref C) = some (.type "type")) (hs : PySem.W.subIn K (.type t) (.ref C) = some false) : PySem.W.kitOne K (.type t) (.ref C) = some false := by
  unfold PySem.W.kitOne PySem.W.kitCls
  have h1 : (PySem.W.clsIn K C).isSome = true := hc
  simp only [h1, ht, hs, beq_self_eq_true, Bool.and_self, if_true]
  rfl
theorem all_mk {l : PySem.W.OpenLaw} {w : World} {K : PySem.W.Frag} {h : Heap} {mg : Str → Option Value} (X : K.In h) (G : h.Ns mainGlobals mg) {fa C CS CJ CM CN po D_t___init__ D_t_of D_sift_up D_sift_down D_j___init__ f_is_integer f_is_integer_from f_is_key f_check_arms f_check_many f_check_place f_check_key f_row_of f_t___init__ f_t_of f_t___len__ f_t___getitem__ f_t_parent f_t_way_to f_z___init__ f_sift_up f_sift_down f_least_child f_is_name f_j___init__ f_j___len__ f_j___contains__ f_j_heap f_j_names f_j_journal f_j_put f_j_change f_j_take f_j_drop f_j_where f_j_key_of f_j__note f_j__settle f_j__remove f__law_number f__law_up f__law_down f__law_put f__law_take f__law_change f__law_drop f__law_deed f__law_done f__law_same f_j_undo f__law_back f_law : Addr} {cc_least_child PP_least_child : Addr} {p_j_heap : Addr} {rest_j_heap : List Value} {p_j_names : Addr} {rest_j_names : List Value} {p_j_journal : Addr} {rest_j_journal : List Value} {od_is_integer an_is_integer : Option Addr} {sl_is_integer : Array (Option Value)} {oc_is_integer kV_is_integer dc_is_integer pm_is_integer cd_is_integer ct_is_integer : Value} {od_is_integer_from an_is_integer_from : Option Addr} {sl_is_integer_from : Array (Option Value)} {oc_is_integer_from kV_is_integer_from dc_is_integer_from pm_is_integer_from cd_is_integer_from ct_is_integer_from : Value} {od_is_key an_is_key : Option Addr} {sl_is_key : Array (Option Value)} {oc_is_key kV_is_key dc_is_key pm_is_key cd_is_key ct_is_key : Value} {od_check_arms an_check_arms : Option Addr} {sl_check_arms : Array (Option Value)} {oc_check_arms kV_check_arms dc_check_arms pm_check_arms cd_check_arms ct_check_arms : Value} {od_check_many an_check_many : Option Addr} {sl_check_many : Array (Option Value)} {oc_check_many kV_check_many dc_check_many pm_check_many cd_check_many ct_check_many : Value} {od_check_place an_check_place : Option Addr} {sl_check_place : Array (Option Value)} {oc_check_place kV_check_place dc_check_place pm_check_place cd_check_place ct_check_place : Value} {od_check_key an_check_key : Option Addr} {sl_check_key : Array (Option Value)} {oc_check_key kV_check_key dc_check_key pm_check_key cd_check_key ct_check_key : Value} {od_row_of an_row_of : Option Addr} {sl_row_of : Array (Option Value)} {oc_row_of kV_row_of dc_row_of pm_row_of cd_row_of ct_row_of : Value} {od_t___init__ an_t___init__ : Option Addr} {sl_t___init__ : Array (Option Value)} {oc_t___init__  dc_t___init__ pm_t___init__ cd_t___init__ ct_t___init__ : Value} {od_t_of an_t_of : Option Addr} {sl_t_of : Array (Option Value)} {oc_t_of  dc_t_of pm_t_of cd_t_of ct_t_of : Value} {od_t___len__ an_t___len__ : Option Addr} {sl_t___len__ : Array (Option Value)} {oc_t___len__ kV_t___len__ dc_t___len__ pm_t___len__ cd_t___len__ ct_t___len__ : Value} {od_t___getitem__ an_t___getitem__ : Option Addr} {sl_t___getitem__ : Array (Option Value)} {oc_t___getitem__ kV_t___getitem__ dc_t___getitem__ pm_t___getitem__ cd_t___getitem__ ct_t___getitem__ : Value} {od_t_parent an_t_parent : Option Addr} {sl_t_parent : Array (Option Value)} {oc_t_parent kV_t_parent dc_t_parent pm_t_parent cd_t_parent ct_t_parent : Value} {od_t_way_to an_t_way_to : Option Addr} {sl_t_way_to : Array (Option Value)} {oc_t_way_to kV_t_way_to dc_t_way_to pm_t_way_to cd_t_way_to ct_t_way_to : Value} {od_z___init__ an_z___init__ : Option Addr} {sl_z___init__ : Array (Option Value)} {oc_z___init__ kV_z___init__ dc_z___init__ pm_z___init__ cd_z___init__ ct_z___init__ : Value} {od_sift_up an_sift_up : Option Addr} {sl_sift_up : Array (Option Value)} {oc_sift_up  dc_sift_up pm_sift_up cd_sift_up ct_sift_up : Value} {od_sift_down an_sift_down : Option Addr} {sl_sift_down : Array (Option Value)} {oc_sift_down  dc_sift_down pm_sift_down cd_sift_down ct_sift_down : Value} {od_least_child an_least_child : Option Addr} {sl_least_child : Array (Option Value)} {oc_least_child kV_least_child dc_least_child pm_least_child  ct_least_child : Value} {od_is_name an_is_name : Option Addr} {sl_is_name : Array (Option Value)} {oc_is_name kV_is_name dc_is_name pm_is_name cd_is_name ct_is_name : Value} {od_j___init__ an_j___init__ : Option Addr} {sl_j___init__ : Array (Option Value)} {oc_j___init__  dc_j___init__ pm_j___init__ cd_j___init__ ct_j___init__ : Value} {od_j___len__ an_j___len__ : Option Addr} {sl_j___len__ : Array (Option Value)} {oc_j___len__ kV_j___len__ dc_j___len__ pm_j___len__ cd_j___len__ ct_j___len__ : Value} {od_j___contains__ an_j___contains__ : Option Addr} {sl_j___contains__ : Array (Option Value)} {oc_j___contains__ kV_j___contains__ dc_j___contains__ pm_j___contains__ cd_j___contains__ ct_j___contains__ : Value} {od_j_heap an_j_heap : Option Addr} {sl_j_heap : Array (Option Value)} {oc_j_heap kV_j_heap dc_j_heap pm_j_heap cd_j_heap ct_j_heap : Value} {od_j_names an_j_names : Option Addr} {sl_j_names : Array (Option Value)} {oc_j_names kV_j_names dc_j_names pm_j_names cd_j_names ct_j_names : Value} {od_j_journal an_j_journal : Option Addr} {sl_j_journal : Array (Option Value)} {oc_j_journal kV_j_journal dc_j_journal pm_j_journal cd_j_journal ct_j_journal : Value} {od_j_put an_j_put : Option Addr} {sl_j_put : Array (Option Value)} {oc_j_put kV_j_put dc_j_put pm_j_put cd_j_put ct_j_put : Value} {od_j_change an_j_change : Option Addr} {sl_j_change : Array (Option Value)} {oc_j_change kV_j_change dc_j_change pm_j_change cd_j_change ct_j_change : Value} {od_j_take an_j_take : Option Addr} {sl_j_take : Array (Option Value)} {oc_j_take kV_j_take dc_j_take pm_j_take cd_j_take ct_j_take : Value} {od_j_drop an_j_drop : Option Addr} {sl_j_drop : Array (Option Value)} {oc_j_drop kV_j_drop dc_j_drop pm_j_drop cd_j_drop ct_j_drop : Value} {od_j_where an_j_where : Option Addr} {sl_j_where : Array (Option Value)} {oc_j_where kV_j_where dc_j_where pm_j_where cd_j_where ct_j_where : Value} {od_j_key_of an_j_key_of : Option Addr} {sl_j_key_of : Array (Option Value)} {oc_j_key_of kV_j_key_of dc_j_key_of pm_j_key_of cd_j_key_of ct_j_key_of : Value} {od_j__note an_j__note : Option Addr} {sl_j__note : Array (Option Value)} {oc_j__note kV_j__note dc_j__note pm_j__note cd_j__note ct_j__note : Value} {od_j__settle an_j__settle : Option Addr} {sl_j__settle : Array (Option Value)} {oc_j__settle kV_j__settle dc_j__settle pm_j__settle cd_j__settle ct_j__settle : Value} {od_j__remove an_j__remove : Option Addr} {sl_j__remove : Array (Option Value)} {oc_j__remove kV_j__remove dc_j__remove pm_j__remove cd_j__remove ct_j__remove : Value} {od__law_number an__law_number : Option Addr} {sl__law_number : Array (Option Value)} {oc__law_number kV__law_number dc__law_number pm__law_number cd__law_number ct__law_number : Value} {od__law_up an__law_up : Option Addr} {sl__law_up : Array (Option Value)} {oc__law_up kV__law_up dc__law_up pm__law_up cd__law_up ct__law_up : Value} {od__law_down an__law_down : Option Addr} {sl__law_down : Array (Option Value)} {oc__law_down kV__law_down dc__law_down pm__law_down cd__law_down ct__law_down : Value} {od__law_put an__law_put : Option Addr} {sl__law_put : Array (Option Value)} {oc__law_put kV__law_put dc__law_put pm__law_put cd__law_put ct__law_put : Value} {od__law_take an__law_take : Option Addr} {sl__law_take : Array (Option Value)} {oc__law_take kV__law_take dc__law_take pm__law_take cd__law_take ct__law_take : Value} {od__law_change an__law_change : Option Addr} {sl__law_change : Array (Option Value)} {oc__law_change kV__law_change dc__law_change pm__law_change cd__law_change ct__law_change : Value} {od__law_drop an__law_drop : Option Addr} {sl__law_drop : Array (Option Value)} {oc__law_drop kV__law_drop dc__law_drop pm__law_drop cd__law_drop ct__law_drop : Value} {od__law_deed an__law_deed : Option Addr} {sl__law_deed : Array (Option Value)} {oc__law_deed kV__law_deed dc__law_deed pm__law_deed cd__law_deed ct__law_deed : Value} {od__law_done an__law_done : Option Addr} {sl__law_done : Array (Option Value)} {oc__law_done kV__law_done dc__law_done pm__law_done cd__law_done ct__law_done : Value} {od__law_same an__law_same : Option Addr} {sl__law_same : Array (Option Value)} {oc__law_same kV__law_same dc__law_same pm__law_same cd__law_same ct__law_same : Value} {od_j_undo an_j_undo : Option Addr} {sl_j_undo : Array (Option Value)} {oc_j_undo kV_j_undo dc_j_undo pm_j_undo cd_j_undo ct_j_undo : Value} {od__law_back an__law_back : Option Addr} {sl__law_back : Array (Option Value)} {oc__law_back kV__law_back dc__law_back pm__law_back cd__law_back ct__law_back : Value} {od_law an_law : Option Addr} {sl_law : Array (Option Value)} {oc_law kV_law dc_law pm_law cd_law ct_law : Value}
    (hfa : mg "law" = some (.ref fa))
    (aC : PySem.W.nsIn K mainGlobals "Tree" = some (some (.ref C)))
    (aCS : PySem.W.nsIn K mainGlobals "Sift" = some (some (.ref CS)))
    (aCJ : PySem.W.nsIn K mainGlobals "Queue" = some (some (.ref CJ)))
    (aCM : PySem.W.nsIn K mainGlobals "Mark" = some (some (.ref CM)))
    (aCN : PySem.W.nsIn K mainGlobals "NothingDone" = some (some (.ref CN)))
    (a_is_integer : PySem.W.nsIn K mainGlobals "is_integer" = some (some (.ref f_is_integer)))
    (l_is_integer : K.lookup f_is_integer = some ⟨oc_is_integer, od_is_integer, .func (PySem.W.fnOf "is_integer" "is_integer" (defArgs s_is_integer) (defBody s_is_integer) (defScope s_is_integer) .none kV_is_integer dc_is_integer pm_is_integer an_is_integer cd_is_integer ct_is_integer), sl_is_integer⟩)
    (c_is_integer : PySem.W.codeIn K cd_is_integer "is_integer" = true)
    (k_is_integer : PySem.W.keepIn K (.ref f_is_integer) = true)
    (a_is_integer_from : PySem.W.nsIn K mainGlobals "is_integer_from" = some (some (.ref f_is_integer_from)))
    (l_is_integer_from : K.lookup f_is_integer_from = some ⟨oc_is_integer_from, od_is_integer_from, .func (PySem.W.fnOf "is_integer_from" "is_integer_from" (defArgs s_is_integer_from) (defBody s_is_integer_from) (defScope s_is_integer_from) .none kV_is_integer_from dc_is_integer_from pm_is_integer_from an_is_integer_from cd_is_integer_from ct_is_integer_from), sl_is_integer_from⟩)
    (c_is_integer_from : PySem.W.codeIn K cd_is_integer_from "is_integer_from" = true)
    (k_is_integer_from : PySem.W.keepIn K (.ref f_is_integer_from) = true)
    (a_is_key : PySem.W.nsIn K mainGlobals "is_key" = some (some (.ref f_is_key)))
    (l_is_key : K.lookup f_is_key = some ⟨oc_is_key, od_is_key, .func (PySem.W.fnOf "is_key" "is_key" (defArgs s_is_key) (defBody s_is_key) (defScope s_is_key) .none kV_is_key dc_is_key pm_is_key an_is_key cd_is_key ct_is_key), sl_is_key⟩)
    (c_is_key : PySem.W.codeIn K cd_is_key "is_key" = true)
    (k_is_key : PySem.W.keepIn K (.ref f_is_key) = true)
    (a_check_arms : PySem.W.nsIn K mainGlobals "check_arms" = some (some (.ref f_check_arms)))
    (l_check_arms : K.lookup f_check_arms = some ⟨oc_check_arms, od_check_arms, .func (PySem.W.fnOf "check_arms" "check_arms" (defArgs s_check_arms) (defBody s_check_arms) (defScope s_check_arms) .none kV_check_arms dc_check_arms pm_check_arms an_check_arms cd_check_arms ct_check_arms), sl_check_arms⟩)
    (c_check_arms : PySem.W.codeIn K cd_check_arms "check_arms" = true)
    (k_check_arms : PySem.W.keepIn K (.ref f_check_arms) = true)
    (a_check_many : PySem.W.nsIn K mainGlobals "check_many" = some (some (.ref f_check_many)))
    (l_check_many : K.lookup f_check_many = some ⟨oc_check_many, od_check_many, .func (PySem.W.fnOf "check_many" "check_many" (defArgs s_check_many) (defBody s_check_many) (defScope s_check_many) .none kV_check_many dc_check_many pm_check_many an_check_many cd_check_many ct_check_many), sl_check_many⟩)
    (c_check_many : PySem.W.codeIn K cd_check_many "check_many" = true)
    (k_check_many : PySem.W.keepIn K (.ref f_check_many) = true)
    (a_check_place : PySem.W.nsIn K mainGlobals "check_place" = some (some (.ref f_check_place)))
    (l_check_place : K.lookup f_check_place = some ⟨oc_check_place, od_check_place, .func (PySem.W.fnOf "check_place" "check_place" (defArgs s_check_place) (defBody s_check_place) (defScope s_check_place) .none kV_check_place dc_check_place pm_check_place an_check_place cd_check_place ct_check_place), sl_check_place⟩)
    (c_check_place : PySem.W.codeIn K cd_check_place "check_place" = true)
    (k_check_place : PySem.W.keepIn K (.ref f_check_place) = true)
    (a_check_key : PySem.W.nsIn K mainGlobals "check_key" = some (some (.ref f_check_key)))
    (l_check_key : K.lookup f_check_key = some ⟨oc_check_key, od_check_key, .func (PySem.W.fnOf "check_key" "check_key" (defArgs s_check_key) (defBody s_check_key) (defScope s_check_key) .none kV_check_key dc_check_key pm_check_key an_check_key cd_check_key ct_check_key), sl_check_key⟩)
    (c_check_key : PySem.W.codeIn K cd_check_key "check_key" = true)
    (k_check_key : PySem.W.keepIn K (.ref f_check_key) = true)
    (a_row_of : PySem.W.nsIn K mainGlobals "row_of" = some (some (.ref f_row_of)))
    (l_row_of : K.lookup f_row_of = some ⟨oc_row_of, od_row_of, .func (PySem.W.fnOf "row_of" "row_of" (defArgs s_row_of) (defBody s_row_of) (defScope s_row_of) .none kV_row_of dc_row_of pm_row_of an_row_of cd_row_of ct_row_of), sl_row_of⟩)
    (c_row_of : PySem.W.codeIn K cd_row_of "row_of" = true)
    (k_row_of : PySem.W.keepIn K (.ref f_row_of) = true)
    (a_t___init__ : PySem.W.findIn K (.ref C) "__init__" = some (some (.ref f_t___init__)))
    (i_t___init__ : PySem.W.isFn K (.ref f_t___init__) = true)
    (l_t___init__ : K.lookup f_t___init__ = some ⟨oc_t___init__, od_t___init__, .func (PySem.W.fnOf "__init__" "Tree.__init__" (defArgs s_t___init__) (defBody s_t___init__) (defScope s_t___init__) .none (.ref D_t___init__) dc_t___init__ pm_t___init__ an_t___init__ cd_t___init__ ct_t___init__), sl_t___init__⟩)
    (c_t___init__ : PySem.W.codeIn K cd_t___init__ "Tree.__init__" = true)
    (k_t___init__ : PySem.W.keepIn K (.ref f_t___init__) = true)
    {tk_t___init__ : Tok}
    (w_t___init__ : PySem.W.nsIn K D_t___init__ "arms" = some (some (.int 2 tk_t___init__)))
    (a_t_of : PySem.W.findCls K (.ref C) (.type "type") "of" = some (.get (.builtin "classmethod.__get__") (.ref po) .none (.ref C)))
    {rest_of : List Value}
    (r_t_of : PySem.W.recIn K po "classmethod" = some (.ref f_t_of :: rest_of))
    (n_t_of : PySem.W.fnIn K f_t_of = true)
    (l_t_of : K.lookup f_t_of = some ⟨oc_t_of, od_t_of, .func (PySem.W.fnOf "of" "Tree.of" (defArgs s_t_of) (defBody s_t_of) (defScope s_t_of) .none (.ref D_t_of) dc_t_of pm_t_of an_t_of cd_t_of ct_t_of), sl_t_of⟩)
    (c_t_of : PySem.W.codeIn K cd_t_of "Tree.of" = true)
    (k_t_of : PySem.W.keepIn K (.ref f_t_of) = true)
    {tk_t_of : Tok}
    (w_t_of : PySem.W.nsIn K D_t_of "arms" = some (some (.int 2 tk_t_of)))
    (a_t___len__ : PySem.W.findIn K (.ref C) "__len__" = some (some (.ref f_t___len__)))
    (i_t___len__ : PySem.W.isFn K (.ref f_t___len__) = true)
    (n_t___len__ : PySem.W.fnIn K f_t___len__ = true)
    (l_t___len__ : K.lookup f_t___len__ = some ⟨oc_t___len__, od_t___len__, .func (PySem.W.fnOf "__len__" "Tree.__len__" (defArgs s_t___len__) (defBody s_t___len__) (defScope s_t___len__) .none kV_t___len__ dc_t___len__ pm_t___len__ an_t___len__ cd_t___len__ ct_t___len__), sl_t___len__⟩)
    (c_t___len__ : PySem.W.codeIn K cd_t___len__ "Tree.__len__" = true)
    (k_t___len__ : PySem.W.keepIn K (.ref f_t___len__) = true)
    (a_t___getitem__ : PySem.W.findIn K (.ref C) "__getitem__" = some (some (.ref f_t___getitem__)))
    (i_t___getitem__ : PySem.W.isFn K (.ref f_t___getitem__) = true)
    (n_t___getitem__ : PySem.W.fnIn K f_t___getitem__ = true)
    (l_t___getitem__ : K.lookup f_t___getitem__ = some ⟨oc_t___getitem__, od_t___getitem__, .func (PySem.W.fnOf "__getitem__" "Tree.__getitem__" (defArgs s_t___getitem__) (defBody s_t___getitem__) (defScope s_t___getitem__) .none kV_t___getitem__ dc_t___getitem__ pm_t___getitem__ an_t___getitem__ cd_t___getitem__ ct_t___getitem__), sl_t___getitem__⟩)
    (c_t___getitem__ : PySem.W.codeIn K cd_t___getitem__ "Tree.__getitem__" = true)
    (k_t___getitem__ : PySem.W.keepIn K (.ref f_t___getitem__) = true)
    (a_t_parent : PySem.W.findIn K (.ref C) "parent" = some (some (.ref f_t_parent)))
    (i_t_parent : PySem.W.isFn K (.ref f_t_parent) = true)
    (l_t_parent : K.lookup f_t_parent = some ⟨oc_t_parent, od_t_parent, .func (PySem.W.fnOf "parent" "Tree.parent" (defArgs s_t_parent) (defBody s_t_parent) (defScope s_t_parent) .none kV_t_parent dc_t_parent pm_t_parent an_t_parent cd_t_parent ct_t_parent), sl_t_parent⟩)
    (c_t_parent : PySem.W.codeIn K cd_t_parent "Tree.parent" = true)
    (k_t_parent : PySem.W.keepIn K (.ref f_t_parent) = true)
    (a_t_way_to : PySem.W.findIn K (.ref C) "way_to" = some (some (.ref f_t_way_to)))
    (i_t_way_to : PySem.W.isFn K (.ref f_t_way_to) = true)
    (l_t_way_to : K.lookup f_t_way_to = some ⟨oc_t_way_to, od_t_way_to, .func (PySem.W.fnOf "way_to" "Tree.way_to" (defArgs s_t_way_to) (defBody s_t_way_to) (defScope s_t_way_to) .none kV_t_way_to dc_t_way_to pm_t_way_to an_t_way_to cd_t_way_to ct_t_way_to), sl_t_way_to⟩)
    (c_t_way_to : PySem.W.codeIn K cd_t_way_to "Tree.way_to" = true)
    (k_t_way_to : PySem.W.keepIn K (.ref f_t_way_to) = true)
    (a_z___init__ : PySem.W.findIn K (.ref CS) "__init__" = some (some (.ref f_z___init__)))
    (i_z___init__ : PySem.W.isFn K (.ref f_z___init__) = true)
    (l_z___init__ : K.lookup f_z___init__ = some ⟨oc_z___init__, od_z___init__, .func (PySem.W.fnOf "__init__" "Sift.__init__" (defArgs s_z___init__) (defBody s_z___init__) (defScope s_z___init__) .none kV_z___init__ dc_z___init__ pm_z___init__ an_z___init__ cd_z___init__ ct_z___init__), sl_z___init__⟩)
    (c_z___init__ : PySem.W.codeIn K cd_z___init__ "Sift.__init__" = true)
    (k_z___init__ : PySem.W.keepIn K (.ref f_z___init__) = true)
    (a_sift_up : PySem.W.nsIn K mainGlobals "sift_up" = some (some (.ref f_sift_up)))
    (l_sift_up : K.lookup f_sift_up = some ⟨oc_sift_up, od_sift_up, .func (PySem.W.fnOf "sift_up" "sift_up" (defArgs s_sift_up) (defBody s_sift_up) (defScope s_sift_up) .none (.ref D_sift_up) dc_sift_up pm_sift_up an_sift_up cd_sift_up ct_sift_up), sl_sift_up⟩)
    (c_sift_up : PySem.W.codeIn K cd_sift_up "sift_up" = true)
    (k_sift_up : PySem.W.keepIn K (.ref f_sift_up) = true)
    {tk_sift_up : Tok}
    (w_sift_up : PySem.W.nsIn K D_sift_up "arms" = some (some (.int 2 tk_sift_up)))
    (a_sift_down : PySem.W.nsIn K mainGlobals "sift_down" = some (some (.ref f_sift_down)))
    (l_sift_down : K.lookup f_sift_down = some ⟨oc_sift_down, od_sift_down, .func (PySem.W.fnOf "sift_down" "sift_down" (defArgs s_sift_down) (defBody s_sift_down) (defScope s_sift_down) .none (.ref D_sift_down) dc_sift_down pm_sift_down an_sift_down cd_sift_down ct_sift_down), sl_sift_down⟩)
    (c_sift_down : PySem.W.codeIn K cd_sift_down "sift_down" = true)
    (k_sift_down : PySem.W.keepIn K (.ref f_sift_down) = true)
    {tk_sift_down : Tok}
    (w_sift_down : PySem.W.nsIn K D_sift_down "arms" = some (some (.int 2 tk_sift_down)))
    (a_least_child : PySem.W.nsIn K mainGlobals "least_child" = some (some (.ref f_least_child)))
    (l_least_child : K.lookup f_least_child = some ⟨oc_least_child, od_least_child, .func (PySem.W.fnOf "least_child" "least_child" (defArgs s_least_child) (defBody s_least_child) (defScope s_least_child) .none kV_least_child dc_least_child pm_least_child an_least_child (.ref cc_least_child) ct_least_child), sl_least_child⟩)
    (c_least_child : PySem.W.codeIn K (.ref cc_least_child) "least_child" = true)
    (k_least_child : PySem.W.keepIn K (.ref f_least_child) = true)
    (a_is_name : PySem.W.nsIn K mainGlobals "is_name" = some (some (.ref f_is_name)))
    (l_is_name : K.lookup f_is_name = some ⟨oc_is_name, od_is_name, .func (PySem.W.fnOf "is_name" "is_name" (defArgs s_is_name) (defBody s_is_name) (defScope s_is_name) .none kV_is_name dc_is_name pm_is_name an_is_name cd_is_name ct_is_name), sl_is_name⟩)
    (c_is_name : PySem.W.codeIn K cd_is_name "is_name" = true)
    (k_is_name : PySem.W.keepIn K (.ref f_is_name) = true)
    (a_j___init__ : PySem.W.findIn K (.ref CJ) "__init__" = some (some (.ref f_j___init__)))
    (i_j___init__ : PySem.W.isFn K (.ref f_j___init__) = true)
    (l_j___init__ : K.lookup f_j___init__ = some ⟨oc_j___init__, od_j___init__, .func (PySem.W.fnOf "__init__" "Queue.__init__" (defArgs s_j___init__) (defBody s_j___init__) (defScope s_j___init__) .none (.ref D_j___init__) dc_j___init__ pm_j___init__ an_j___init__ cd_j___init__ ct_j___init__), sl_j___init__⟩)
    (c_j___init__ : PySem.W.codeIn K cd_j___init__ "Queue.__init__" = true)
    (k_j___init__ : PySem.W.keepIn K (.ref f_j___init__) = true)
    {tk_j___init__ : Tok}
    (w_j___init__ : PySem.W.nsIn K D_j___init__ "arms" = some (some (.int 2 tk_j___init__)))
    (a_j___len__ : PySem.W.findIn K (.ref CJ) "__len__" = some (some (.ref f_j___len__)))
    (i_j___len__ : PySem.W.isFn K (.ref f_j___len__) = true)
    (n_j___len__ : PySem.W.fnIn K f_j___len__ = true)
    (l_j___len__ : K.lookup f_j___len__ = some ⟨oc_j___len__, od_j___len__, .func (PySem.W.fnOf "__len__" "Queue.__len__" (defArgs s_j___len__) (defBody s_j___len__) (defScope s_j___len__) .none kV_j___len__ dc_j___len__ pm_j___len__ an_j___len__ cd_j___len__ ct_j___len__), sl_j___len__⟩)
    (c_j___len__ : PySem.W.codeIn K cd_j___len__ "Queue.__len__" = true)
    (k_j___len__ : PySem.W.keepIn K (.ref f_j___len__) = true)
    (a_j___contains__ : PySem.W.findIn K (.ref CJ) "__contains__" = some (some (.ref f_j___contains__)))
    (i_j___contains__ : PySem.W.isFn K (.ref f_j___contains__) = true)
    (n_j___contains__ : PySem.W.fnIn K f_j___contains__ = true)
    (l_j___contains__ : K.lookup f_j___contains__ = some ⟨oc_j___contains__, od_j___contains__, .func (PySem.W.fnOf "__contains__" "Queue.__contains__" (defArgs s_j___contains__) (defBody s_j___contains__) (defScope s_j___contains__) .none kV_j___contains__ dc_j___contains__ pm_j___contains__ an_j___contains__ cd_j___contains__ ct_j___contains__), sl_j___contains__⟩)
    (c_j___contains__ : PySem.W.codeIn K cd_j___contains__ "Queue.__contains__" = true)
    (k_j___contains__ : PySem.W.keepIn K (.ref f_j___contains__) = true)
    (a_j_heap : PySem.W.findIn K (.ref CJ) "heap" = some (some (.ref p_j_heap)))
    (pg_j_heap : PySem.W.specialIn K (.ref p_j_heap) "__get__" = some (some (.builtin "property.__get__")))
    (pt_j_heap : PySem.W.takesIn K (.ref p_j_heap) = some true)
    (pr_j_heap : PySem.W.recIn K p_j_heap "property" = some (.ref f_j_heap :: rest_j_heap))
    (l_j_heap : K.lookup f_j_heap = some ⟨oc_j_heap, od_j_heap, .func (PySem.W.fnOf "heap" "Queue.heap" (defArgs s_j_heap) (defBody s_j_heap) (defScope s_j_heap) .none kV_j_heap dc_j_heap pm_j_heap an_j_heap cd_j_heap ct_j_heap), sl_j_heap⟩)
    (c_j_heap : PySem.W.codeIn K cd_j_heap "Queue.heap" = true)
    (k_j_heap : PySem.W.keepIn K (.ref f_j_heap) = true)
    (a_j_names : PySem.W.findIn K (.ref CJ) "names" = some (some (.ref p_j_names)))
    (pg_j_names : PySem.W.specialIn K (.ref p_j_names) "__get__" = some (some (.builtin "property.__get__")))
    (pt_j_names : PySem.W.takesIn K (.ref p_j_names) = some true)
    (pr_j_names : PySem.W.recIn K p_j_names "property" = some (.ref f_j_names :: rest_j_names))
    (l_j_names : K.lookup f_j_names = some ⟨oc_j_names, od_j_names, .func (PySem.W.fnOf "names" "Queue.names" (defArgs s_j_names) (defBody s_j_names) (defScope s_j_names) .none kV_j_names dc_j_names pm_j_names an_j_names cd_j_names ct_j_names), sl_j_names⟩)
    (c_j_names : PySem.W.codeIn K cd_j_names "Queue.names" = true)
    (k_j_names : PySem.W.keepIn K (.ref f_j_names) = true)
    (a_j_journal : PySem.W.findIn K (.ref CJ) "journal" = some (some (.ref p_j_journal)))
    (pg_j_journal : PySem.W.specialIn K (.ref p_j_journal) "__get__" = some (some (.builtin "property.__get__")))
    (pt_j_journal : PySem.W.takesIn K (.ref p_j_journal) = some true)
    (pr_j_journal : PySem.W.recIn K p_j_journal "property" = some (.ref f_j_journal :: rest_j_journal))
    (l_j_journal : K.lookup f_j_journal = some ⟨oc_j_journal, od_j_journal, .func (PySem.W.fnOf "journal" "Queue.journal" (defArgs s_j_journal) (defBody s_j_journal) (defScope s_j_journal) .none kV_j_journal dc_j_journal pm_j_journal an_j_journal cd_j_journal ct_j_journal), sl_j_journal⟩)
    (c_j_journal : PySem.W.codeIn K cd_j_journal "Queue.journal" = true)
    (k_j_journal : PySem.W.keepIn K (.ref f_j_journal) = true)
    (a_j_put : PySem.W.findIn K (.ref CJ) "put" = some (some (.ref f_j_put)))
    (i_j_put : PySem.W.isFn K (.ref f_j_put) = true)
    (l_j_put : K.lookup f_j_put = some ⟨oc_j_put, od_j_put, .func (PySem.W.fnOf "put" "Queue.put" (defArgs s_j_put) (defBody s_j_put) (defScope s_j_put) .none kV_j_put dc_j_put pm_j_put an_j_put cd_j_put ct_j_put), sl_j_put⟩)
    (c_j_put : PySem.W.codeIn K cd_j_put "Queue.put" = true)
    (k_j_put : PySem.W.keepIn K (.ref f_j_put) = true)
    (a_j_change : PySem.W.findIn K (.ref CJ) "change" = some (some (.ref f_j_change)))
    (i_j_change : PySem.W.isFn K (.ref f_j_change) = true)
    (l_j_change : K.lookup f_j_change = some ⟨oc_j_change, od_j_change, .func (PySem.W.fnOf "change" "Queue.change" (defArgs s_j_change) (defBody s_j_change) (defScope s_j_change) .none kV_j_change dc_j_change pm_j_change an_j_change cd_j_change ct_j_change), sl_j_change⟩)
    (c_j_change : PySem.W.codeIn K cd_j_change "Queue.change" = true)
    (k_j_change : PySem.W.keepIn K (.ref f_j_change) = true)
    (a_j_take : PySem.W.findIn K (.ref CJ) "take" = some (some (.ref f_j_take)))
    (i_j_take : PySem.W.isFn K (.ref f_j_take) = true)
    (l_j_take : K.lookup f_j_take = some ⟨oc_j_take, od_j_take, .func (PySem.W.fnOf "take" "Queue.take" (defArgs s_j_take) (defBody s_j_take) (defScope s_j_take) .none kV_j_take dc_j_take pm_j_take an_j_take cd_j_take ct_j_take), sl_j_take⟩)
    (c_j_take : PySem.W.codeIn K cd_j_take "Queue.take" = true)
    (k_j_take : PySem.W.keepIn K (.ref f_j_take) = true)
    (a_j_drop : PySem.W.findIn K (.ref CJ) "drop" = some (some (.ref f_j_drop)))
    (i_j_drop : PySem.W.isFn K (.ref f_j_drop) = true)
    (l_j_drop : K.lookup f_j_drop = some ⟨oc_j_drop, od_j_drop, .func (PySem.W.fnOf "drop" "Queue.drop" (defArgs s_j_drop) (defBody s_j_drop) (defScope s_j_drop) .none kV_j_drop dc_j_drop pm_j_drop an_j_drop cd_j_drop ct_j_drop), sl_j_drop⟩)
    (c_j_drop : PySem.W.codeIn K cd_j_drop "Queue.drop" = true)
    (k_j_drop : PySem.W.keepIn K (.ref f_j_drop) = true)
    (a_j_where : PySem.W.findIn K (.ref CJ) "where" = some (some (.ref f_j_where)))
    (i_j_where : PySem.W.isFn K (.ref f_j_where) = true)
    (l_j_where : K.lookup f_j_where = some ⟨oc_j_where, od_j_where, .func (PySem.W.fnOf "where" "Queue.where" (defArgs s_j_where) (defBody s_j_where) (defScope s_j_where) .none kV_j_where dc_j_where pm_j_where an_j_where cd_j_where ct_j_where), sl_j_where⟩)
    (c_j_where : PySem.W.codeIn K cd_j_where "Queue.where" = true)
    (k_j_where : PySem.W.keepIn K (.ref f_j_where) = true)
    (a_j_key_of : PySem.W.findIn K (.ref CJ) "key_of" = some (some (.ref f_j_key_of)))
    (i_j_key_of : PySem.W.isFn K (.ref f_j_key_of) = true)
    (l_j_key_of : K.lookup f_j_key_of = some ⟨oc_j_key_of, od_j_key_of, .func (PySem.W.fnOf "key_of" "Queue.key_of" (defArgs s_j_key_of) (defBody s_j_key_of) (defScope s_j_key_of) .none kV_j_key_of dc_j_key_of pm_j_key_of an_j_key_of cd_j_key_of ct_j_key_of), sl_j_key_of⟩)
    (c_j_key_of : PySem.W.codeIn K cd_j_key_of "Queue.key_of" = true)
    (k_j_key_of : PySem.W.keepIn K (.ref f_j_key_of) = true)
    (a_j__note : PySem.W.findIn K (.ref CJ) "_note" = some (some (.ref f_j__note)))
    (i_j__note : PySem.W.isFn K (.ref f_j__note) = true)
    (l_j__note : K.lookup f_j__note = some ⟨oc_j__note, od_j__note, .func (PySem.W.fnOf "_note" "Queue._note" (defArgs s_j__note) (defBody s_j__note) (defScope s_j__note) .none kV_j__note dc_j__note pm_j__note an_j__note cd_j__note ct_j__note), sl_j__note⟩)
    (c_j__note : PySem.W.codeIn K cd_j__note "Queue._note" = true)
    (k_j__note : PySem.W.keepIn K (.ref f_j__note) = true)
    (a_j__settle : PySem.W.findIn K (.ref CJ) "_settle" = some (some (.ref f_j__settle)))
    (i_j__settle : PySem.W.isFn K (.ref f_j__settle) = true)
    (l_j__settle : K.lookup f_j__settle = some ⟨oc_j__settle, od_j__settle, .func (PySem.W.fnOf "_settle" "Queue._settle" (defArgs s_j__settle) (defBody s_j__settle) (defScope s_j__settle) .none kV_j__settle dc_j__settle pm_j__settle an_j__settle cd_j__settle ct_j__settle), sl_j__settle⟩)
    (c_j__settle : PySem.W.codeIn K cd_j__settle "Queue._settle" = true)
    (k_j__settle : PySem.W.keepIn K (.ref f_j__settle) = true)
    (a_j__remove : PySem.W.findIn K (.ref CJ) "_remove" = some (some (.ref f_j__remove)))
    (i_j__remove : PySem.W.isFn K (.ref f_j__remove) = true)
    (l_j__remove : K.lookup f_j__remove = some ⟨oc_j__remove, od_j__remove, .func (PySem.W.fnOf "_remove" "Queue._remove" (defArgs s_j__remove) (defBody s_j__remove) (defScope s_j__remove) .none kV_j__remove dc_j__remove pm_j__remove an_j__remove cd_j__remove ct_j__remove), sl_j__remove⟩)
    (c_j__remove : PySem.W.codeIn K cd_j__remove "Queue._remove" = true)
    (k_j__remove : PySem.W.keepIn K (.ref f_j__remove) = true)
    (a__law_number : PySem.W.nsIn K mainGlobals "_law_number" = some (some (.ref f__law_number)))
    (l__law_number : K.lookup f__law_number = some ⟨oc__law_number, od__law_number, .func (PySem.W.fnOf "_law_number" "_law_number" (defArgs s__law_number) (defBody s__law_number) (defScope s__law_number) .none kV__law_number dc__law_number pm__law_number an__law_number cd__law_number ct__law_number), sl__law_number⟩)
    (c__law_number : PySem.W.codeIn K cd__law_number "_law_number" = true)
    (k__law_number : PySem.W.keepIn K (.ref f__law_number) = true)
    (a__law_up : PySem.W.nsIn K mainGlobals "_law_up" = some (some (.ref f__law_up)))
    (l__law_up : K.lookup f__law_up = some ⟨oc__law_up, od__law_up, .func (PySem.W.fnOf "_law_up" "_law_up" (defArgs s__law_up) (defBody s__law_up) (defScope s__law_up) .none kV__law_up dc__law_up pm__law_up an__law_up cd__law_up ct__law_up), sl__law_up⟩)
    (c__law_up : PySem.W.codeIn K cd__law_up "_law_up" = true)
    (k__law_up : PySem.W.keepIn K (.ref f__law_up) = true)
    (a__law_down : PySem.W.nsIn K mainGlobals "_law_down" = some (some (.ref f__law_down)))
    (l__law_down : K.lookup f__law_down = some ⟨oc__law_down, od__law_down, .func (PySem.W.fnOf "_law_down" "_law_down" (defArgs s__law_down) (defBody s__law_down) (defScope s__law_down) .none kV__law_down dc__law_down pm__law_down an__law_down cd__law_down ct__law_down), sl__law_down⟩)
    (c__law_down : PySem.W.codeIn K cd__law_down "_law_down" = true)
    (k__law_down : PySem.W.keepIn K (.ref f__law_down) = true)
    (a__law_put : PySem.W.nsIn K mainGlobals "_law_put" = some (some (.ref f__law_put)))
    (l__law_put : K.lookup f__law_put = some ⟨oc__law_put, od__law_put, .func (PySem.W.fnOf "_law_put" "_law_put" (defArgs s__law_put) (defBody s__law_put) (defScope s__law_put) .none kV__law_put dc__law_put pm__law_put an__law_put cd__law_put ct__law_put), sl__law_put⟩)
    (c__law_put : PySem.W.codeIn K cd__law_put "_law_put" = true)
    (k__law_put : PySem.W.keepIn K (.ref f__law_put) = true)
    (a__law_take : PySem.W.nsIn K mainGlobals "_law_take" = some (some (.ref f__law_take)))
    (l__law_take : K.lookup f__law_take = some ⟨oc__law_take, od__law_take, .func (PySem.W.fnOf "_law_take" "_law_take" (defArgs s__law_take) (defBody s__law_take) (defScope s__law_take) .none kV__law_take dc__law_take pm__law_take an__law_take cd__law_take ct__law_take), sl__law_take⟩)
    (c__law_take : PySem.W.codeIn K cd__law_take "_law_take" = true)
    (k__law_take : PySem.W.keepIn K (.ref f__law_take) = true)
    (a__law_change : PySem.W.nsIn K mainGlobals "_law_change" = some (some (.ref f__law_change)))
    (l__law_change : K.lookup f__law_change = some ⟨oc__law_change, od__law_change, .func (PySem.W.fnOf "_law_change" "_law_change" (defArgs s__law_change) (defBody s__law_change) (defScope s__law_change) .none kV__law_change dc__law_change pm__law_change an__law_change cd__law_change ct__law_change), sl__law_change⟩)
    (c__law_change : PySem.W.codeIn K cd__law_change "_law_change" = true)
    (k__law_change : PySem.W.keepIn K (.ref f__law_change) = true)
    (a__law_drop : PySem.W.nsIn K mainGlobals "_law_drop" = some (some (.ref f__law_drop)))
    (l__law_drop : K.lookup f__law_drop = some ⟨oc__law_drop, od__law_drop, .func (PySem.W.fnOf "_law_drop" "_law_drop" (defArgs s__law_drop) (defBody s__law_drop) (defScope s__law_drop) .none kV__law_drop dc__law_drop pm__law_drop an__law_drop cd__law_drop ct__law_drop), sl__law_drop⟩)
    (c__law_drop : PySem.W.codeIn K cd__law_drop "_law_drop" = true)
    (k__law_drop : PySem.W.keepIn K (.ref f__law_drop) = true)
    (a__law_deed : PySem.W.nsIn K mainGlobals "_law_deed" = some (some (.ref f__law_deed)))
    (l__law_deed : K.lookup f__law_deed = some ⟨oc__law_deed, od__law_deed, .func (PySem.W.fnOf "_law_deed" "_law_deed" (defArgs s__law_deed) (defBody s__law_deed) (defScope s__law_deed) .none kV__law_deed dc__law_deed pm__law_deed an__law_deed cd__law_deed ct__law_deed), sl__law_deed⟩)
    (c__law_deed : PySem.W.codeIn K cd__law_deed "_law_deed" = true)
    (k__law_deed : PySem.W.keepIn K (.ref f__law_deed) = true)
    (a__law_done : PySem.W.nsIn K mainGlobals "_law_done" = some (some (.ref f__law_done)))
    (l__law_done : K.lookup f__law_done = some ⟨oc__law_done, od__law_done, .func (PySem.W.fnOf "_law_done" "_law_done" (defArgs s__law_done) (defBody s__law_done) (defScope s__law_done) .none kV__law_done dc__law_done pm__law_done an__law_done cd__law_done ct__law_done), sl__law_done⟩)
    (c__law_done : PySem.W.codeIn K cd__law_done "_law_done" = true)
    (k__law_done : PySem.W.keepIn K (.ref f__law_done) = true)
    (a__law_same : PySem.W.nsIn K mainGlobals "_law_same" = some (some (.ref f__law_same)))
    (l__law_same : K.lookup f__law_same = some ⟨oc__law_same, od__law_same, .func (PySem.W.fnOf "_law_same" "_law_same" (defArgs s__law_same) (defBody s__law_same) (defScope s__law_same) .none kV__law_same dc__law_same pm__law_same an__law_same cd__law_same ct__law_same), sl__law_same⟩)
    (c__law_same : PySem.W.codeIn K cd__law_same "_law_same" = true)
    (k__law_same : PySem.W.keepIn K (.ref f__law_same) = true)
    (a_j_undo : PySem.W.findIn K (.ref CJ) "undo" = some (some (.ref f_j_undo)))
    (i_j_undo : PySem.W.isFn K (.ref f_j_undo) = true)
    (l_j_undo : K.lookup f_j_undo = some ⟨oc_j_undo, od_j_undo, .func (PySem.W.fnOf "undo" "Queue.undo" (defArgs s_j_undo) (defBody s_j_undo) (defScope s_j_undo) .none kV_j_undo dc_j_undo pm_j_undo an_j_undo cd_j_undo ct_j_undo), sl_j_undo⟩)
    (c_j_undo : PySem.W.codeIn K cd_j_undo "Queue.undo" = true)
    (k_j_undo : PySem.W.keepIn K (.ref f_j_undo) = true)
    (a__law_back : PySem.W.nsIn K mainGlobals "_law_back" = some (some (.ref f__law_back)))
    (l__law_back : K.lookup f__law_back = some ⟨oc__law_back, od__law_back, .func (PySem.W.fnOf "_law_back" "_law_back" (defArgs s__law_back) (defBody s__law_back) (defScope s__law_back) .none kV__law_back dc__law_back pm__law_back an__law_back cd__law_back ct__law_back), sl__law_back⟩)
    (c__law_back : PySem.W.codeIn K cd__law_back "_law_back" = true)
    (k__law_back : PySem.W.keepIn K (.ref f__law_back) = true)
    (a_law : PySem.W.nsIn K mainGlobals "law" = some (some (.ref f_law)))
    (l_law : K.lookup f_law = some ⟨oc_law, od_law, .func (PySem.W.fnOf "law" "law" (defArgs s_law) (defBody s_law) (defScope s_law) .none kV_law dc_law pm_law an_law cd_law ct_law), sl_law⟩)
    (c_law : PySem.W.codeIn K cd_law "law" = true)
    (k_law : PySem.W.keepIn K (.ref f_law) = true)
    {tc_GREATEST_KEY : Tok}
    (q_GREATEST_KEY : PySem.W.nsIn K mainGlobals "GREATEST_KEY" = some (some (.int 1000000000 tc_GREATEST_KEY)))
    {tc_LONGEST_NAME : Tok}
    (q_LONGEST_NAME : PySem.W.nsIn K mainGlobals "LONGEST_NAME" = some (some (.int 8 tc_LONGEST_NAME)))
    {tc_MOST_ARMS : Tok}
    (q_MOST_ARMS : PySem.W.nsIn K mainGlobals "MOST_ARMS" = some (some (.int 4 tc_MOST_ARMS)))
    {tc_MOST_PLACES : Tok}
    (q_MOST_PLACES : PySem.W.nsIn K mainGlobals "MOST_PLACES" = some (some (.int 12 tc_MOST_PLACES)))
    {ts_LETTERS : Tok}
    (qs_LETTERS : PySem.W.nsIn K mainGlobals "LETTERS" = some (some (.str ("abcdefghijklmnopqrstuvwxyz" : Str) ts_LETTERS)))
    (z_all : PySem.W.nsIn K mainGlobals "all" = some none)
    (z_bool : PySem.W.nsIn K mainGlobals "bool" = some none)
    (z_enumerate : PySem.W.nsIn K mainGlobals "enumerate" = some none)
    (z_int : PySem.W.nsIn K mainGlobals "int" = some none)
    (z_isinstance : PySem.W.nsIn K mainGlobals "isinstance" = some none)
    (z_len : PySem.W.nsIn K mainGlobals "len" = some none)
    (z_list : PySem.W.nsIn K mainGlobals "list" = some none)
    (z_min : PySem.W.nsIn K mainGlobals "min" = some none)
    (z_range : PySem.W.nsIn K mainGlobals "range" = some none)
    (z_reversed : PySem.W.nsIn K mainGlobals "reversed" = some none)
    (z_str : PySem.W.nsIn K mainGlobals "str" = some none)
    (z_sum : PySem.W.nsIn K mainGlobals "sum" = some none)
    (z_tuple : PySem.W.nsIn K mainGlobals "tuple" = some none)
    (z_zip : PySem.W.nsIn K mainGlobals "zip" = some none)
    (pg : PySem.W.plainGet K C Str.empty = true)
    (hd : PySem.W.hasDictIn K C = true)
    (po_ : PySem.W.plainOver K C = true)
    (sa : PySem.W.findIn K (.ref C) "__setattr__" = some (some (.builtin "object.__setattr__")))
    (na_nMany : PySem.W.findIn K (.ref C) "many" = some none)
    (na_nArms : PySem.W.findIn K (.ref C) "arms" = some none)
    (na_nPl : PySem.W.findIn K (.ref C) "_places" = some none)
    (mk : PySem.W.makesIn K C = true)
    (kc : PySem.W.keepIn K (.ref C) = true)
    (rd : PySem.W.readsIn K C (.type "type") = true)
    (ga : PySem.W.specialIn K (.ref C) "__getattribute__" = some (some (.builtin "type.__getattribute__")))
    (pgS : PySem.W.plainGet K CS Str.empty = true)
    (hdS : PySem.W.hasDictIn K CS = true)
    (po_S : PySem.W.plainOver K CS = true)
    (saS : PySem.W.findIn K (.ref CS) "__setattr__" = some (some (.builtin "object.__setattr__")))
    (na_nRow : PySem.W.findIn K (.ref CS) "row" = some none)
    (na_nWay : PySem.W.findIn K (.ref CS) "way" = some none)
    (na_nLooks : PySem.W.findIn K (.ref CS) "looks" = some none)
    (mkS : PySem.W.makesIn K CS = true)
    (kcS : PySem.W.keepIn K (.ref CS) = true)
    (pgJ : PySem.W.plainGet K CJ Str.empty = true)
    (hdJ : PySem.W.hasDictIn K CJ = true)
    (po_J : PySem.W.plainOver K CJ = true)
    (saJ : PySem.W.findIn K (.ref CJ) "__setattr__" = some (some (.builtin "object.__setattr__")))
    (na_jArms : PySem.W.findIn K (.ref CJ) "arms" = some none)
    (na_jHeap : PySem.W.findIn K (.ref CJ) "_heap" = some none)
    (na_jNames : PySem.W.findIn K (.ref CJ) "_names" = some none)
    (na_jDone : PySem.W.findIn K (.ref CJ) "_done" = some none)
    (na_jBegun : PySem.W.findIn K (.ref CJ) "_begun" = some none)
    (na_jMark : PySem.W.findIn K (.ref CJ) "_mark" = some none)
    (mkJ : PySem.W.makesIn K CJ = true)
    (kcJ : PySem.W.keepIn K (.ref CJ) = true)
    (pgM : PySem.W.plainGet K CM Str.empty = true)
    (hdM : PySem.W.hasDictIn K CM = true)
    (po_M : PySem.W.plainOver K CM = true)
    (saM : PySem.W.findIn K (.ref CM) "__setattr__" = some (some (.builtin "object.__setattr__")))
    (oiM : PySem.W.findIn K (.ref CM) "__init__" = some (some (.builtin "object.__init__")))
    (otM : PySem.W.mroIn K CM (.type "object") = some true)
    (mkM : PySem.W.makesIn K CM = true)
    (kcM : PySem.W.keepIn K (.ref CM) = true)
    (xXN : PySem.W.excIn K CN [.type "ValueError", .type "Exception", .type "BaseException", .type "object"] "ValueError.__new__" = true)
    (kXN : PySem.W.keepIn K (.ref CN) = true)
    (bXN : PySem.W.subIn K (.ref CN) (.type "BaseException") = some true)
    (tXN : PySem.W.typeIn K (.ref CN) = some (.type "type"))
    (dXN : PySem.W.hasDictIn K CN = true)
    (uXN : PySem.W.subIn K (.ref CN) (.ref CN) = some true)
    (hT_least_child : h.get? PP_least_child = some (PySem.W.tabObj #[])) (hC_least_child : PySem.W.codeHdIn K cc_least_child PP_least_child = true) (hN_least_child : K.lookup PP_least_child = none)
    : LamX.LawAtS l w K CX0 16 63 "script" mg fa h := by
  have e := hfa.symm.trans (PySem.W.mg_of X G a_law)
  cases e
  let A : Ad := { f_is_integer := f_is_integer, d_is_integer := (PySem.W.fnOf "is_integer" "is_integer" (defArgs s_is_integer) (defBody s_is_integer) (defScope s_is_integer) .none kV_is_integer dc_is_integer pm_is_integer an_is_integer cd_is_integer ct_is_integer), f_is_integer_from := f_is_integer_from, d_is_integer_from := (PySem.W.fnOf "is_integer_from" "is_integer_from" (defArgs s_is_integer_from) (defBody s_is_integer_from) (defScope s_is_integer_from) .none kV_is_integer_from dc_is_integer_from pm_is_integer_from an_is_integer_from cd_is_integer_from ct_is_integer_from), f_is_key := f_is_key, d_is_key := (PySem.W.fnOf "is_key" "is_key" (defArgs s_is_key) (defBody s_is_key) (defScope s_is_key) .none kV_is_key dc_is_key pm_is_key an_is_key cd_is_key ct_is_key), f_check_arms := f_check_arms, d_check_arms := (PySem.W.fnOf "check_arms" "check_arms" (defArgs s_check_arms) (defBody s_check_arms) (defScope s_check_arms) .none kV_check_arms dc_check_arms pm_check_arms an_check_arms cd_check_arms ct_check_arms), f_check_many := f_check_many, d_check_many := (PySem.W.fnOf "check_many" "check_many" (defArgs s_check_many) (defBody s_check_many) (defScope s_check_many) .none kV_check_many dc_check_many pm_check_many an_check_many cd_check_many ct_check_many), f_check_place := f_check_place, d_check_place := (PySem.W.fnOf "check_place" "check_place" (defArgs s_check_place) (defBody s_check_place) (defScope s_check_place) .none kV_check_place dc_check_place pm_check_place an_check_place cd_check_place ct_check_place), f_check_key := f_check_key, d_check_key := (PySem.W.fnOf "check_key" "check_key" (defArgs s_check_key) (defBody s_check_key) (defScope s_check_key) .none kV_check_key dc_check_key pm_check_key an_check_key cd_check_key ct_check_key), f_row_of := f_row_of, d_row_of := (PySem.W.fnOf "row_of" "row_of" (defArgs s_row_of) (defBody s_row_of) (defScope s_row_of) .none kV_row_of dc_row_of pm_row_of an_row_of cd_row_of ct_row_of), f_t___init__ := f_t___init__, d_t___init__ := (PySem.W.fnOf "__init__" "Tree.__init__" (defArgs s_t___init__) (defBody s_t___init__) (defScope s_t___init__) .none (.ref D_t___init__) dc_t___init__ pm_t___init__ an_t___init__ cd_t___init__ ct_t___init__), f_t_of := f_t_of, d_t_of := (PySem.W.fnOf "of" "Tree.of" (defArgs s_t_of) (defBody s_t_of) (defScope s_t_of) .none (.ref D_t_of) dc_t_of pm_t_of an_t_of cd_t_of ct_t_of), f_t___len__ := f_t___len__, d_t___len__ := (PySem.W.fnOf "__len__" "Tree.__len__" (defArgs s_t___len__) (defBody s_t___len__) (defScope s_t___len__) .none kV_t___len__ dc_t___len__ pm_t___len__ an_t___len__ cd_t___len__ ct_t___len__), f_t___getitem__ := f_t___getitem__, d_t___getitem__ := (PySem.W.fnOf "__getitem__" "Tree.__getitem__" (defArgs s_t___getitem__) (defBody s_t___getitem__) (defScope s_t___getitem__) .none kV_t___getitem__ dc_t___getitem__ pm_t___getitem__ an_t___getitem__ cd_t___getitem__ ct_t___getitem__), f_t_parent := f_t_parent, d_t_parent := (PySem.W.fnOf "parent" "Tree.parent" (defArgs s_t_parent) (defBody s_t_parent) (defScope s_t_parent) .none kV_t_parent dc_t_parent pm_t_parent an_t_parent cd_t_parent ct_t_parent), f_t_way_to := f_t_way_to, d_t_way_to := (PySem.W.fnOf "way_to" "Tree.way_to" (defArgs s_t_way_to) (defBody s_t_way_to) (defScope s_t_way_to) .none kV_t_way_to dc_t_way_to pm_t_way_to an_t_way_to cd_t_way_to ct_t_way_to), f_z___init__ := f_z___init__, d_z___init__ := (PySem.W.fnOf "__init__" "Sift.__init__" (defArgs s_z___init__) (defBody s_z___init__) (defScope s_z___init__) .none kV_z___init__ dc_z___init__ pm_z___init__ an_z___init__ cd_z___init__ ct_z___init__), f_sift_up := f_sift_up, d_sift_up := (PySem.W.fnOf "sift_up" "sift_up" (defArgs s_sift_up) (defBody s_sift_up) (defScope s_sift_up) .none (.ref D_sift_up) dc_sift_up pm_sift_up an_sift_up cd_sift_up ct_sift_up), f_sift_down := f_sift_down, d_sift_down := (PySem.W.fnOf "sift_down" "sift_down" (defArgs s_sift_down) (defBody s_sift_down) (defScope s_sift_down) .none (.ref D_sift_down) dc_sift_down pm_sift_down an_sift_down cd_sift_down ct_sift_down), f_least_child := f_least_child, d_least_child := (PySem.W.fnOf "least_child" "least_child" (defArgs s_least_child) (defBody s_least_child) (defScope s_least_child) .none kV_least_child dc_least_child pm_least_child an_least_child (.ref cc_least_child) ct_least_child), f_is_name := f_is_name, d_is_name := (PySem.W.fnOf "is_name" "is_name" (defArgs s_is_name) (defBody s_is_name) (defScope s_is_name) .none kV_is_name dc_is_name pm_is_name an_is_name cd_is_name ct_is_name), f_j___init__ := f_j___init__, d_j___init__ := (PySem.W.fnOf "__init__" "Queue.__init__" (defArgs s_j___init__) (defBody s_j___init__) (defScope s_j___init__) .none (.ref D_j___init__) dc_j___init__ pm_j___init__ an_j___init__ cd_j___init__ ct_j___init__), f_j___len__ := f_j___len__, d_j___len__ := (PySem.W.fnOf "__len__" "Queue.__len__" (defArgs s_j___len__) (defBody s_j___len__) (defScope s_j___len__) .none kV_j___len__ dc_j___len__ pm_j___len__ an_j___len__ cd_j___len__ ct_j___len__), f_j___contains__ := f_j___contains__, d_j___contains__ := (PySem.W.fnOf "__contains__" "Queue.__contains__" (defArgs s_j___contains__) (defBody s_j___contains__) (defScope s_j___contains__) .none kV_j___contains__ dc_j___contains__ pm_j___contains__ an_j___contains__ cd_j___contains__ ct_j___contains__), f_j_heap := f_j_heap, d_j_heap := (PySem.W.fnOf "heap" "Queue.heap" (defArgs s_j_heap) (defBody s_j_heap) (defScope s_j_heap) .none kV_j_heap dc_j_heap pm_j_heap an_j_heap cd_j_heap ct_j_heap), f_j_names := f_j_names, d_j_names := (PySem.W.fnOf "names" "Queue.names" (defArgs s_j_names) (defBody s_j_names) (defScope s_j_names) .none kV_j_names dc_j_names pm_j_names an_j_names cd_j_names ct_j_names), f_j_journal := f_j_journal, d_j_journal := (PySem.W.fnOf "journal" "Queue.journal" (defArgs s_j_journal) (defBody s_j_journal) (defScope s_j_journal) .none kV_j_journal dc_j_journal pm_j_journal an_j_journal cd_j_journal ct_j_journal), f_j_put := f_j_put, d_j_put := (PySem.W.fnOf "put" "Queue.put" (defArgs s_j_put) (defBody s_j_put) (defScope s_j_put) .none kV_j_put dc_j_put pm_j_put an_j_put cd_j_put ct_j_put), f_j_change := f_j_change, d_j_change := (PySem.W.fnOf "change" "Queue.change" (defArgs s_j_change) (defBody s_j_change) (defScope s_j_change) .none kV_j_change dc_j_change pm_j_change an_j_change cd_j_change ct_j_change), f_j_take := f_j_take, d_j_take := (PySem.W.fnOf "take" "Queue.take" (defArgs s_j_take) (defBody s_j_take) (defScope s_j_take) .none kV_j_take dc_j_take pm_j_take an_j_take cd_j_take ct_j_take), f_j_drop := f_j_drop, d_j_drop := (PySem.W.fnOf "drop" "Queue.drop" (defArgs s_j_drop) (defBody s_j_drop) (defScope s_j_drop) .none kV_j_drop dc_j_drop pm_j_drop an_j_drop cd_j_drop ct_j_drop), f_j_where := f_j_where, d_j_where := (PySem.W.fnOf "where" "Queue.where" (defArgs s_j_where) (defBody s_j_where) (defScope s_j_where) .none kV_j_where dc_j_where pm_j_where an_j_where cd_j_where ct_j_where), f_j_key_of := f_j_key_of, d_j_key_of := (PySem.W.fnOf "key_of" "Queue.key_of" (defArgs s_j_key_of) (defBody s_j_key_of) (defScope s_j_key_of) .none kV_j_key_of dc_j_key_of pm_j_key_of an_j_key_of cd_j_key_of ct_j_key_of), f_j__note := f_j__note, d_j__note := (PySem.W.fnOf "_note" "Queue._note" (defArgs s_j__note) (defBody s_j__note) (defScope s_j__note) .none kV_j__note dc_j__note pm_j__note an_j__note cd_j__note ct_j__note), f_j__settle := f_j__settle, d_j__settle := (PySem.W.fnOf "_settle" "Queue._settle" (defArgs s_j__settle) (defBody s_j__settle) (defScope s_j__settle) .none kV_j__settle dc_j__settle pm_j__settle an_j__settle cd_j__settle ct_j__settle), f_j__remove := f_j__remove, d_j__remove := (PySem.W.fnOf "_remove" "Queue._remove" (defArgs s_j__remove) (defBody s_j__remove) (defScope s_j__remove) .none kV_j__remove dc_j__remove pm_j__remove an_j__remove cd_j__remove ct_j__remove), f__law_number := f__law_number, d__law_number := (PySem.W.fnOf "_law_number" "_law_number" (defArgs s__law_number) (defBody s__law_number) (defScope s__law_number) .none kV__law_number dc__law_number pm__law_number an__law_number cd__law_number ct__law_number), f__law_up := f__law_up, d__law_up := (PySem.W.fnOf "_law_up" "_law_up" (defArgs s__law_up) (defBody s__law_up) (defScope s__law_up) .none kV__law_up dc__law_up pm__law_up an__law_up cd__law_up ct__law_up), f__law_down := f__law_down, d__law_down := (PySem.W.fnOf "_law_down" "_law_down" (defArgs s__law_down) (defBody s__law_down) (defScope s__law_down) .none kV__law_down dc__law_down pm__law_down an__law_down cd__law_down ct__law_down), f__law_put := f__law_put, d__law_put := (PySem.W.fnOf "_law_put" "_law_put" (defArgs s__law_put) (defBody s__law_put) (defScope s__law_put) .none kV__law_put dc__law_put pm__law_put an__law_put cd__law_put ct__law_put), f__law_take := f__law_take, d__law_take := (PySem.W.fnOf "_law_take" "_law_take" (defArgs s__law_take) (defBody s__law_take) (defScope s__law_take) .none kV__law_take dc__law_take pm__law_take an__law_take cd__law_take ct__law_take), f__law_change := f__law_change, d__law_change := (PySem.W.fnOf "_law_change" "_law_change" (defArgs s__law_change) (defBody s__law_change) (defScope s__law_change) .none kV__law_change dc__law_change pm__law_change an__law_change cd__law_change ct__law_change), f__law_drop := f__law_drop, d__law_drop := (PySem.W.fnOf "_law_drop" "_law_drop" (defArgs s__law_drop) (defBody s__law_drop) (defScope s__law_drop) .none kV__law_drop dc__law_drop pm__law_drop an__law_drop cd__law_drop ct__law_drop), f__law_deed := f__law_deed, d__law_deed := (PySem.W.fnOf "_law_deed" "_law_deed" (defArgs s__law_deed) (defBody s__law_deed) (defScope s__law_deed) .none kV__law_deed dc__law_deed pm__law_deed an__law_deed cd__law_deed ct__law_deed), f__law_done := f__law_done, d__law_done := (PySem.W.fnOf "_law_done" "_law_done" (defArgs s__law_done) (defBody s__law_done) (defScope s__law_done) .none kV__law_done dc__law_done pm__law_done an__law_done cd__law_done ct__law_done), f__law_same := f__law_same, d__law_same := (PySem.W.fnOf "_law_same" "_law_same" (defArgs s__law_same) (defBody s__law_same) (defScope s__law_same) .none kV__law_same dc__law_same pm__law_same an__law_same cd__law_same ct__law_same), f_j_undo := f_j_undo, d_j_undo := (PySem.W.fnOf "undo" "Queue.undo" (defArgs s_j_undo) (defBody s_j_undo) (defScope s_j_undo) .none kV_j_undo dc_j_undo pm_j_undo an_j_undo cd_j_undo ct_j_undo), f__law_back := f__law_back, d__law_back := (PySem.W.fnOf "_law_back" "_law_back" (defArgs s__law_back) (defBody s__law_back) (defScope s__law_back) .none kV__law_back dc__law_back pm__law_back an__law_back cd__law_back ct__law_back), f_law := fa, d_law := (PySem.W.fnOf "law" "law" (defArgs s_law) (defBody s_law) (defScope s_law) .none kV_law dc_law pm_law an_law cd_law ct_law), p_j_heap := p_j_heap, p_j_names := p_j_names, p_j_journal := p_j_journal, C := C, CS := CS, CJ := CJ, CM := CM, CN := CN, po := po, c_least_child := cc_least_child, P_least_child := PP_least_child }
  have T : Tx K mg A := {
    F_is_integer := (fun_mk (st := s_is_integer) l_is_integer c_is_integer k_is_integer)
    m_is_integer := PySem.W.mg_of X G a_is_integer
    F_is_integer_from := (fun_mk (st := s_is_integer_from) l_is_integer_from c_is_integer_from k_is_integer_from)
    m_is_integer_from := PySem.W.mg_of X G a_is_integer_from
    F_is_key := (fun_mk (st := s_is_key) l_is_key c_is_key k_is_key)
    m_is_key := PySem.W.mg_of X G a_is_key
    F_check_arms := (fun_mk (st := s_check_arms) l_check_arms c_check_arms k_check_arms)
    m_check_arms := PySem.W.mg_of X G a_check_arms
    F_check_many := (fun_mk (st := s_check_many) l_check_many c_check_many k_check_many)
    m_check_many := PySem.W.mg_of X G a_check_many
    F_check_place := (fun_mk (st := s_check_place) l_check_place c_check_place k_check_place)
    m_check_place := PySem.W.mg_of X G a_check_place
    F_check_key := (fun_mk (st := s_check_key) l_check_key c_check_key k_check_key)
    m_check_key := PySem.W.mg_of X G a_check_key
    F_row_of := (fun_mk (st := s_row_of) l_row_of c_row_of k_row_of)
    m_row_of := PySem.W.mg_of X G a_row_of
    F_t___init__ := ⟨⟨_, _, _, _, _, _, _, _, _, _, rfl, l_t___init__, c_t___init__, .inl ⟨rfl, rfl⟩, .inr ⟨_, rfl, fun q hq => by rw [List.mem_singleton.mp hq]; exact ⟨_, w_t___init__, relI _ _⟩⟩⟩, k_t___init__⟩
    F_t_of := ⟨⟨_, _, _, _, _, _, _, _, _, _, rfl, l_t_of, c_t_of, .inl ⟨rfl, rfl⟩, .inr ⟨_, rfl, fun q hq => by rw [List.mem_singleton.mp hq]; exact ⟨_, w_t_of, relI _ _⟩⟩⟩, k_t_of⟩
    F_t___len__ := (fun_mk (st := s_t___len__) l_t___len__ c_t___len__ k_t___len__)
    D_t___len__ := ⟨a_t___len__, i_t___len__, n_t___len__⟩
    F_t___getitem__ := (fun_mk (st := s_t___getitem__) l_t___getitem__ c_t___getitem__ k_t___getitem__)
    D_t___getitem__ := ⟨a_t___getitem__, i_t___getitem__, n_t___getitem__⟩
    F_t_parent := (fun_mk (st := s_t_parent) l_t_parent c_t_parent k_t_parent)
    M_t_parent := ⟨a_t_parent, i_t_parent, k_t_parent⟩
    F_t_way_to := (fun_mk (st := s_t_way_to) l_t_way_to c_t_way_to k_t_way_to)
    M_t_way_to := ⟨a_t_way_to, i_t_way_to, k_t_way_to⟩
    F_z___init__ := (fun_mk (st := s_z___init__) l_z___init__ c_z___init__ k_z___init__)
    F_sift_up := ⟨⟨_, _, _, _, _, _, _, _, _, _, rfl, l_sift_up, c_sift_up, .inl ⟨rfl, rfl⟩, .inr ⟨_, rfl, fun q hq => by rw [List.mem_singleton.mp hq]; exact ⟨_, w_sift_up, relI _ _⟩⟩⟩, k_sift_up⟩
    m_sift_up := PySem.W.mg_of X G a_sift_up
    F_sift_down := ⟨⟨_, _, _, _, _, _, _, _, _, _, rfl, l_sift_down, c_sift_down, .inl ⟨rfl, rfl⟩, .inr ⟨_, rfl, fun q hq => by rw [List.mem_singleton.mp hq]; exact ⟨_, w_sift_down, relI _ _⟩⟩⟩, k_sift_down⟩
    m_sift_down := PySem.W.mg_of X G a_sift_down
    L_least_child := ⟨_, _, _, _, _, _, _, _, rfl, l_least_child, c_least_child⟩
    F_least_child := (fun_mk (st := s_least_child) l_least_child c_least_child k_least_child)
    m_least_child := PySem.W.mg_of X G a_least_child
    F_is_name := (fun_mk (st := s_is_name) l_is_name c_is_name k_is_name)
    m_is_name := PySem.W.mg_of X G a_is_name
    F_j___init__ := ⟨⟨_, _, _, _, _, _, _, _, _, _, rfl, l_j___init__, c_j___init__, .inl ⟨rfl, rfl⟩, .inr ⟨_, rfl, fun q hq => by rw [List.mem_singleton.mp hq]; exact ⟨_, w_j___init__, relI _ _⟩⟩⟩, k_j___init__⟩
    F_j___len__ := (fun_mk (st := s_j___len__) l_j___len__ c_j___len__ k_j___len__)
    D_j___len__ := ⟨a_j___len__, i_j___len__, n_j___len__⟩
    F_j___contains__ := (fun_mk (st := s_j___contains__) l_j___contains__ c_j___contains__ k_j___contains__)
    D_j___contains__ := ⟨a_j___contains__, i_j___contains__, n_j___contains__⟩
    F_j_heap := (fun_mk (st := s_j_heap) l_j_heap c_j_heap k_j_heap)
    P_j_heap := ⟨a_j_heap, pg_j_heap, pt_j_heap, ⟨_, pr_j_heap⟩⟩
    F_j_names := (fun_mk (st := s_j_names) l_j_names c_j_names k_j_names)
    P_j_names := ⟨a_j_names, pg_j_names, pt_j_names, ⟨_, pr_j_names⟩⟩
    F_j_journal := (fun_mk (st := s_j_journal) l_j_journal c_j_journal k_j_journal)
    P_j_journal := ⟨a_j_journal, pg_j_journal, pt_j_journal, ⟨_, pr_j_journal⟩⟩
    F_j_put := (fun_mk (st := s_j_put) l_j_put c_j_put k_j_put)
    M_j_put := ⟨a_j_put, i_j_put, k_j_put⟩
    F_j_change := (fun_mk (st := s_j_change) l_j_change c_j_change k_j_change)
    M_j_change := ⟨a_j_change, i_j_change, k_j_change⟩
    F_j_take := (fun_mk (st := s_j_take) l_j_take c_j_take k_j_take)
    M_j_take := ⟨a_j_take, i_j_take, k_j_take⟩
    F_j_drop := (fun_mk (st := s_j_drop) l_j_drop c_j_drop k_j_drop)
    M_j_drop := ⟨a_j_drop, i_j_drop, k_j_drop⟩
    F_j_where := (fun_mk (st := s_j_where) l_j_where c_j_where k_j_where)
    M_j_where := ⟨a_j_where, i_j_where, k_j_where⟩
    F_j_key_of := (fun_mk (st := s_j_key_of) l_j_key_of c_j_key_of k_j_key_of)
    M_j_key_of := ⟨a_j_key_of, i_j_key_of, k_j_key_of⟩
    F_j__note := (fun_mk (st := s_j__note) l_j__note c_j__note k_j__note)
    M_j__note := ⟨a_j__note, i_j__note, k_j__note⟩
    F_j__settle := (fun_mk (st := s_j__settle) l_j__settle c_j__settle k_j__settle)
    M_j__settle := ⟨a_j__settle, i_j__settle, k_j__settle⟩
    F_j__remove := (fun_mk (st := s_j__remove) l_j__remove c_j__remove k_j__remove)
    M_j__remove := ⟨a_j__remove, i_j__remove, k_j__remove⟩
    F__law_number := (fun_mk (st := s__law_number) l__law_number c__law_number k__law_number)
    m__law_number := PySem.W.mg_of X G a__law_number
    F__law_up := (fun_mk (st := s__law_up) l__law_up c__law_up k__law_up)
    m__law_up := PySem.W.mg_of X G a__law_up
    F__law_down := (fun_mk (st := s__law_down) l__law_down c__law_down k__law_down)
    m__law_down := PySem.W.mg_of X G a__law_down
    F__law_put := (fun_mk (st := s__law_put) l__law_put c__law_put k__law_put)
    m__law_put := PySem.W.mg_of X G a__law_put
    F__law_take := (fun_mk (st := s__law_take) l__law_take c__law_take k__law_take)
    m__law_take := PySem.W.mg_of X G a__law_take
    F__law_change := (fun_mk (st := s__law_change) l__law_change c__law_change k__law_change)
    m__law_change := PySem.W.mg_of X G a__law_change
    F__law_drop := (fun_mk (st := s__law_drop) l__law_drop c__law_drop k__law_drop)
    m__law_drop := PySem.W.mg_of X G a__law_drop
    F__law_deed := (fun_mk (st := s__law_deed) l__law_deed c__law_deed k__law_deed)
    m__law_deed := PySem.W.mg_of X G a__law_deed
    F__law_done := (fun_mk (st := s__law_done) l__law_done c__law_done k__law_done)
    m__law_done := PySem.W.mg_of X G a__law_done
    F__law_same := (fun_mk (st := s__law_same) l__law_same c__law_same k__law_same)
    m__law_same := PySem.W.mg_of X G a__law_same
    F_j_undo := (fun_mk (st := s_j_undo) l_j_undo c_j_undo k_j_undo)
    M_j_undo := ⟨a_j_undo, i_j_undo, k_j_undo⟩
    F__law_back := (fun_mk (st := s__law_back) l__law_back c__law_back k__law_back)
    m__law_back := PySem.W.mg_of X G a__law_back
    F_law := (fun_mk (st := s_law) l_law c_law k_law)
    m_law := PySem.W.mg_of X G a_law
    c_GREATEST_KEY := .inr ⟨_, PySem.W.mg_of X G q_GREATEST_KEY⟩
    c_LONGEST_NAME := .inr ⟨_, PySem.W.mg_of X G q_LONGEST_NAME⟩
    c_MOST_ARMS := .inr ⟨_, PySem.W.mg_of X G q_MOST_ARMS⟩
    c_MOST_PLACES := .inr ⟨_, PySem.W.mg_of X G q_MOST_PLACES⟩
    s_LETTERS := ⟨_, PySem.W.mg_of X G qs_LETTERS⟩
    g_all := PySem.W.mg_none_of X G z_all
    g_bool := PySem.W.mg_none_of X G z_bool
    g_enumerate := PySem.W.mg_none_of X G z_enumerate
    g_int := PySem.W.mg_none_of X G z_int
    g_isinstance := PySem.W.mg_none_of X G z_isinstance
    g_len := PySem.W.mg_none_of X G z_len
    g_list := PySem.W.mg_none_of X G z_list
    g_min := PySem.W.mg_none_of X G z_min
    g_range := PySem.W.mg_none_of X G z_range
    g_reversed := PySem.W.mg_none_of X G z_reversed
    g_str := PySem.W.mg_none_of X G z_str
    g_sum := PySem.W.mg_none_of X G z_sum
    g_tuple := PySem.W.mg_none_of X G z_tuple
    g_zip := PySem.W.mg_none_of X G z_zip
    cT := ⟨pg, hd, po_, sa⟩
    nMany := na_nMany
    nArms := na_nArms
    nPl := na_nPl
    mC := PySem.W.mg_of X G aC
    mkC := ⟨mk, a_t___init__, i_t___init__, kc⟩
    cr := ⟨rd, ga⟩
    cof := ⟨a_t_of, ⟨_, r_t_of⟩, n_t_of⟩
    cTS := ⟨pgS, hdS, po_S, saS⟩
    nRow := na_nRow
    nWay := na_nWay
    nLooks := na_nLooks
    mCS := PySem.W.mg_of X G aCS
    mkCS := ⟨mkS, a_z___init__, i_z___init__, kcS⟩
    cTJ := ⟨pgJ, hdJ, po_J, saJ⟩
    jArms := na_jArms
    jHeap := na_jHeap
    jNames := na_jNames
    jDone := na_jDone
    jBegun := na_jBegun
    jMark := na_jMark
    mCJ := PySem.W.mg_of X G aCJ
    mkCJ := ⟨mkJ, a_j___init__, i_j___init__, kcJ⟩
    cTM := ⟨pgM, hdM, po_M, saM⟩
    mCM := PySem.W.mg_of X G aCM
    mkCM := ⟨mkM, oiM, otM, kcM⟩
    mCN := PySem.W.mg_of X G aCN
    xXN := xXN
    kXN := kXN
    bXN := bXN
    tXN := tXN
    eXN := PySem.W.exm_ref bXN dXN tXN uXN
  }
  refine ⟨A.d_law, [(cc_least_child, PP_least_child)], spLaw K A, fun p hp => by
    simp only [List.mem_cons, List.not_mem_nil, or_false] at hp
    rcases hp with rfl
    · exact hT_least_child, ?_, ?_, fun s v => .of_eq rfl, fun H a ns hl hb hH hS => ⟨a, ns, rfl, hS, hl, fun p hp => ?_, fun _ => rfl⟩, fun base _ _ hTB => ok_law T (hTB (cc_least_child, PP_least_child) (by simp))⟩
  · exact fun p hp => by
      simp only [List.mem_cons, List.not_mem_nil, or_false] at hp
      rcases hp with rfl
      · exact hN_least_child
  · exact fun p hp => by
      simp only [List.mem_cons, List.not_mem_nil, or_false] at hp
      rcases hp with rfl
      · exact PySem.W.codeHd_of_K X hC_least_child
  · unfold TT at hp
    simp only [List.mem_cons, List.not_mem_nil, or_false] at hp
    rcases hp with rfl
    · exact LamX.TabS.nil (hH (cc_least_child, PP_least_child) (by simp))
theorem walk {l : PySem.W.OpenLaw} {q : Program} {loose : List Str} {XP : (Str → Option Value) → Heap → Prop} {YP : World → Heap → Prop} {d : DefRec} {K : Params → PySem.W.Frag} (hn : l.most = some 63) (hdf : d.params.defaults = [])
    (hY : ∀ (w : World) (h : Heap), YP w h → (K w.params).In h)
    (F : ∀ (w : World) (mg : Str → Option Value) (fa : Addr) (h : Heap), YP w h → (K w.params).In h → h.Ns mainGlobals mg → mg d.name = some (.ref fa) → LamX.LawAtS l w (K w.params) CX0 16 63 "script" mg fa h) :
    PySem.W.WalkO q loose XP YP l.row.toRowW d [] (fun f vs => PySem.call f vs) :=
  LamX.walk_ofTs (n := 63) (k := 16) (x := "script") (CX := fun _ => CX0) hn (by decide) hdf ⟨rfl, by decide, by decide⟩ hY F fun _ _ _ _ _ z => z
end Tw

open PySem PySem.W PyProof.Rows in
set_option maxRecDepth 100000 in
set_option maxHeartbeats 0 in
theorem PySem.Challenge.cw_heaprows_k74_undone_holds : PySem.Challenge.rw_heaprows_k74_undone.Holds := by
  w_on; o_law; k_head; (case hw => w_witness2)
  k_fill
  refine Tw.walk (l := PySem.Challenge.rw_heaprows_k74_undone) rfl rfl (fun w h Y => PySem.W.km_in_of Y) ?F
  case F =>
    intro w mg fa h Y KX G hmg
    have hT8 := PySem.W.km_tabs_of Y
    refine' Tw.all_mk KX G hmg ?aC ?aCS ?aCJ ?aCM ?aCN ?a_is_integer ?l_is_integer ?c_is_integer ?k_is_integer ?a_is_integer_from ?l_is_integer_from ?c_is_integer_from ?k_is_integer_from ?a_is_key ?l_is_key ?c_is_key ?k_is_key ?a_check_arms ?l_check_arms ?c_check_arms ?k_check_arms ?a_check_many ?l_check_many ?c_check_many ?k_check_many ?a_check_place ?l_check_place ?c_check_place ?k_check_place ?a_check_key ?l_check_key ?c_check_key ?k_check_key ?a_row_of ?l_row_of ?c_row_of ?k_row_of ?a_t___init__ ?i_t___init__ ?l_t___init__ ?c_t___init__ ?k_t___init__ ?w_t___init__ ?a_t_of ?r_t_of ?n_t_of ?l_t_of ?c_t_of ?k_t_of ?w_t_of ?a_t___len__ ?i_t___len__ ?n_t___len__ ?l_t___len__ ?c_t___len__ ?k_t___len__ ?a_t___getitem__ ?i_t___getitem__ ?n_t___getitem__ ?l_t___getitem__ ?c_t___getitem__ ?k_t___getitem__ ?a_t_parent ?i_t_parent ?l_t_parent ?c_t_parent ?k_t_parent ?a_t_way_to ?i_t_way_to ?l_t_way_to ?c_t_way_to ?k_t_way_to ?a_z___init__ ?i_z___init__ ?l_z___init__ ?c_z___init__ ?k_z___init__ ?a_sift_up ?l_sift_up ?c_sift_up ?k_sift_up ?w_sift_up ?a_sift_down ?l_sift_down ?c_sift_down ?k_sift_down ?w_sift_down ?a_least_child ?l_least_child ?c_least_child ?k_least_child ?a_is_name ?l_is_name ?c_is_name ?k_is_name ?a_j___init__ ?i_j___init__ ?l_j___init__ ?c_j___init__ ?k_j___init__ ?w_j___init__ ?a_j___len__ ?i_j___len__ ?n_j___len__ ?l_j___len__ ?c_j___len__ ?k_j___len__ ?a_j___contains__ ?i_j___contains__ ?n_j___contains__ ?l_j___contains__ ?c_j___contains__ ?k_j___contains__ ?a_j_heap ?pg_j_heap ?pt_j_heap ?pr_j_heap ?l_j_heap ?c_j_heap ?k_j_heap ?a_j_names ?pg_j_names ?pt_j_names ?pr_j_names ?l_j_names ?c_j_names ?k_j_names ?a_j_journal ?pg_j_journal ?pt_j_journal ?pr_j_journal ?l_j_journal ?c_j_journal ?k_j_journal ?a_j_put ?i_j_put ?l_j_put ?c_j_put ?k_j_put ?a_j_change ?i_j_change ?l_j_change ?c_j_change ?k_j_change ?a_j_take ?i_j_take ?l_j_take ?c_j_take ?k_j_take ?a_j_drop ?i_j_drop ?l_j_drop ?c_j_drop ?k_j_drop ?a_j_where ?i_j_where ?l_j_where ?c_j_where ?k_j_where ?a_j_key_of ?i_j_key_of ?l_j_key_of ?c_j_key_of ?k_j_key_of ?a_j__note ?i_j__note ?l_j__note ?c_j__note ?k_j__note ?a_j__settle ?i_j__settle ?l_j__settle ?c_j__settle ?k_j__settle ?a_j__remove ?i_j__remove ?l_j__remove ?c_j__remove ?k_j__remove ?a__law_number ?l__law_number ?c__law_number ?k__law_number ?a__law_up ?l__law_up ?c__law_up ?k__law_up ?a__law_down ?l__law_down ?c__law_down ?k__law_down ?a__law_put ?l__law_put ?c__law_put ?k__law_put ?a__law_take ?l__law_take ?c__law_take ?k__law_take ?a__law_change ?l__law_change ?c__law_change ?k__law_change ?a__law_drop ?l__law_drop ?c__law_drop ?k__law_drop ?a__law_deed ?l__law_deed ?c__law_deed ?k__law_deed ?a__law_done ?l__law_done ?c__law_done ?k__law_done ?a__law_same ?l__law_same ?c__law_same ?k__law_same ?a_j_undo ?i_j_undo ?l_j_undo ?c_j_undo ?k_j_undo ?a__law_back ?l__law_back ?c__law_back ?k__law_back ?a_law ?l_law ?c_law ?k_law ?q_GREATEST_KEY ?q_LONGEST_NAME ?q_MOST_ARMS ?q_MOST_PLACES ?qs_LETTERS ?z_all ?z_bool ?z_enumerate ?z_int ?z_isinstance ?z_len ?z_list ?z_min ?z_range ?z_reversed ?z_str ?z_sum ?z_tuple ?z_zip ?pg ?hd ?po_ ?sa ?na_nMany ?na_nArms ?na_nPl ?mk ?kc ?rd ?ga ?pgS ?hdS ?po_S ?saS ?na_nRow ?na_nWay ?na_nLooks ?mkS ?kcS ?pgJ ?hdJ ?po_J ?saJ ?na_jArms ?na_jHeap ?na_jNames ?na_jDone ?na_jBegun ?na_jMark ?mkJ ?kcJ ?pgM ?hdM ?po_M ?saM ?oiM ?otM ?mkM ?kcM ?xXN ?kXN ?bXN ?tXN ?dXN ?uXN (hT8 _ (.head _)) (by kernel_rfl) (by kernel_rfl)
    (case aC => k_is)
    (case aCS => k_is)
    (case aCJ => k_is)
    (case aCM => k_is)
    (case aCN => k_is)
    (case a_is_integer => k_is)
    (case l_is_integer => k_is)
    (case c_is_integer => k_is)
    (case k_is_integer => k_is)
    (case a_is_integer_from => k_is)
    (case l_is_integer_from => k_is)
    (case c_is_integer_from => k_is)
    (case k_is_integer_from => k_is)
    (case a_is_key => k_is)
    (case l_is_key => k_is)
    (case c_is_key => k_is)
    (case k_is_key => k_is)
    (case a_check_arms => k_is)
    (case l_check_arms => k_is)
    (case c_check_arms => k_is)
    (case k_check_arms => k_is)
    (case a_check_many => k_is)
    (case l_check_many => k_is)
    (case c_check_many => k_is)
    (case k_check_many => k_is)
    (case a_check_place => k_is)
    (case l_check_place => k_is)
    (case c_check_place => k_is)
    (case k_check_place => k_is)
    (case a_check_key => k_is)
    (case l_check_key => k_is)
    (case c_check_key => k_is)
    (case k_check_key => k_is)
    (case a_row_of => k_is)
    (case l_row_of => k_is)
    (case c_row_of => k_is)
    (case k_row_of => k_is)
    (case a_t___init__ => k_is)
    (case i_t___init__ => k_is)
    (case l_t___init__ => k_is)
    (case c_t___init__ => k_is)
    (case k_t___init__ => k_is)
    (case w_t___init__ => k_is)
    (case a_t_of => k_is)
    (case r_t_of => k_is)
    (case n_t_of => k_is)
    (case l_t_of => k_is)
    (case c_t_of => k_is)
    (case k_t_of => k_is)
    (case w_t_of => k_is)
    (case a_t___len__ => k_is)
    (case i_t___len__ => k_is)
    (case n_t___len__ => k_is)
    (case l_t___len__ => k_is)
    (case c_t___len__ => k_is)
    (case k_t___len__ => k_is)
    (case a_t___getitem__ => k_is)
    (case i_t___getitem__ => k_is)
    (case n_t___getitem__ => k_is)
    (case l_t___getitem__ => k_is)
    (case c_t___getitem__ => k_is)
    (case k_t___getitem__ => k_is)
    (case a_t_parent => k_is)
    (case i_t_parent => k_is)
    (case l_t_parent => k_is)
    (case c_t_parent => k_is)
    (case k_t_parent => k_is)
    (case a_t_way_to => k_is)
    (case i_t_way_to => k_is)
    (case l_t_way_to => k_is)
    (case c_t_way_to => k_is)
    (case k_t_way_to => k_is)
    (case a_z___init__ => k_is)
    (case i_z___init__ => k_is)
    (case l_z___init__ => k_is)
    (case c_z___init__ => k_is)
    (case k_z___init__ => k_is)
    (case a_sift_up => k_is)
    (case l_sift_up => k_is)
    (case c_sift_up => k_is)
    (case k_sift_up => k_is)
    (case w_sift_up => k_is)
    (case a_sift_down => k_is)
    (case l_sift_down => k_is)
    (case c_sift_down => k_is)
    (case k_sift_down => k_is)
    (case w_sift_down => k_is)
    (case a_least_child => k_is)
    (case l_least_child => k_is)
    (case c_least_child => k_is)
    (case k_least_child => k_is)
    (case a_is_name => k_is)
    (case l_is_name => k_is)
    (case c_is_name => k_is)
    (case k_is_name => k_is)
    (case a_j___init__ => k_is)
    (case i_j___init__ => k_is)
    (case l_j___init__ => k_is)
    (case c_j___init__ => k_is)
    (case k_j___init__ => k_is)
    (case w_j___init__ => k_is)
    (case a_j___len__ => k_is)
    (case i_j___len__ => k_is)
    (case n_j___len__ => k_is)
    (case l_j___len__ => k_is)
    (case c_j___len__ => k_is)
    (case k_j___len__ => k_is)
    (case a_j___contains__ => k_is)
    (case i_j___contains__ => k_is)
    (case n_j___contains__ => k_is)
    (case l_j___contains__ => k_is)
    (case c_j___contains__ => k_is)
    (case k_j___contains__ => k_is)
    (case a_j_heap => k_is)
    (case pg_j_heap => k_is)
    (case pt_j_heap => k_is)
    (case pr_j_heap => k_is)
    (case l_j_heap => k_is)
    (case c_j_heap => k_is)
    (case k_j_heap => k_is)
    (case a_j_names => k_is)
    (case pg_j_names => k_is)
    (case pt_j_names => k_is)
    (case pr_j_names => k_is)
    (case l_j_names => k_is)
    (case c_j_names => k_is)
    (case k_j_names => k_is)
    (case a_j_journal => k_is)
    (case pg_j_journal => k_is)
    (case pt_j_journal => k_is)
    (case pr_j_journal => k_is)
    (case l_j_journal => k_is)
    (case c_j_journal => k_is)
    (case k_j_journal => k_is)
    (case a_j_put => k_is)
    (case i_j_put => k_is)
    (case l_j_put => k_is)
    (case c_j_put => k_is)
    (case k_j_put => k_is)
    (case a_j_change => k_is)
    (case i_j_change => k_is)
    (case l_j_change => k_is)
    (case c_j_change => k_is)
    (case k_j_change => k_is)
    (case a_j_take => k_is)
    (case i_j_take => k_is)
    (case l_j_take => k_is)
    (case c_j_take => k_is)
    (case k_j_take => k_is)
    (case a_j_drop => k_is)
    (case i_j_drop => k_is)
    (case l_j_drop => k_is)
    (case c_j_drop => k_is)
    (case k_j_drop => k_is)
    (case a_j_where => k_is)
    (case i_j_where => k_is)
    (case l_j_where => k_is)
    (case c_j_where => k_is)
    (case k_j_where => k_is)
    (case a_j_key_of => k_is)
    (case i_j_key_of => k_is)
    (case l_j_key_of => k_is)
    (case c_j_key_of => k_is)
    (case k_j_key_of => k_is)
    (case a_j__note => k_is)
    (case i_j__note => k_is)
    (case l_j__note => k_is)
    (case c_j__note => k_is)
    (case k_j__note => k_is)
    (case a_j__settle => k_is)
    (case i_j__settle => k_is)
    (case l_j__settle => k_is)
    (case c_j__settle => k_is)
    (case k_j__settle => k_is)
    (case a_j__remove => k_is)
    (case i_j__remove => k_is)
    (case l_j__remove => k_is)
    (case c_j__remove => k_is)
    (case k_j__remove => k_is)
    (case a__law_number => k_is)
    (case l__law_number => k_is)
    (case c__law_number => k_is)
    (case k__law_number => k_is)
    (case a__law_up => k_is)
    (case l__law_up => k_is)
    (case c__law_up => k_is)
    (case k__law_up => k_is)
    (case a__law_down => k_is)
    (case l__law_down => k_is)
    (case c__law_down => k_is)
    (case k__law_down => k_is)
    (case a__law_put => k_is)
    (case l__law_put => k_is)
    (case c__law_put => k_is)
    (case k__law_put => k_is)
    (case a__law_take => k_is)
    (case l__law_take => k_is)
    (case c__law_take => k_is)
    (case k__law_take => k_is)
    (case a__law_change => k_is)
    (case l__law_change => k_is)
    (case c__law_change => k_is)
    (case k__law_change => k_is)
    (case a__law_drop => k_is)
    (case l__law_drop => k_is)
    (case c__law_drop => k_is)
    (case k__law_drop => k_is)
    (case a__law_deed => k_is)
    (case l__law_deed => k_is)
    (case c__law_deed => k_is)
    (case k__law_deed => k_is)
    (case a__law_done => k_is)
    (case l__law_done => k_is)
    (case c__law_done => k_is)
    (case k__law_done => k_is)
    (case a__law_same => k_is)
    (case l__law_same => k_is)
    (case c__law_same => k_is)
    (case k__law_same => k_is)
    (case a_j_undo => k_is)
    (case i_j_undo => k_is)
    (case l_j_undo => k_is)
    (case c_j_undo => k_is)
    (case k_j_undo => k_is)
    (case a__law_back => k_is)
    (case l__law_back => k_is)
    (case c__law_back => k_is)
    (case k__law_back => k_is)
    (case a_law => k_is)
    (case l_law => k_is)
    (case c_law => k_is)
    (case k_law => k_is)
    (case q_GREATEST_KEY => k_is)
    (case q_LONGEST_NAME => k_is)
    (case q_MOST_ARMS => k_is)
    (case q_MOST_PLACES => k_is)
    (case qs_LETTERS => k_is)
    (case z_all => k_is)
    (case z_bool => k_is)
    (case z_enumerate => k_is)
    (case z_int => k_is)
    (case z_isinstance => k_is)
    (case z_len => k_is)
    (case z_list => k_is)
    (case z_min => k_is)
    (case z_range => k_is)
    (case z_reversed => k_is)
    (case z_str => k_is)
    (case z_sum => k_is)
    (case z_tuple => k_is)
    (case z_zip => k_is)
    (case pg => k_is)
    (case hd => k_is)
    (case po_ => k_is)
    (case sa => k_is)
    (case na_nMany => k_is)
    (case na_nArms => k_is)
    (case na_nPl => k_is)
    (case mk => k_is)
    (case kc => k_is)
    (case rd => k_is)
    (case ga => k_is)
    (case pgS => k_is)
    (case hdS => k_is)
    (case po_S => k_is)
    (case saS => k_is)
    (case na_nRow => k_is)
    (case na_nWay => k_is)
    (case na_nLooks => k_is)
    (case mkS => k_is)
    (case kcS => k_is)
    (case pgJ => k_is)
    (case hdJ => k_is)
    (case po_J => k_is)
    (case saJ => k_is)
    (case na_jArms => k_is)
    (case na_jHeap => k_is)
    (case na_jNames => k_is)
    (case na_jDone => k_is)
    (case na_jBegun => k_is)
    (case na_jMark => k_is)
    (case mkJ => k_is)
    (case kcJ => k_is)
    (case pgM => k_is)
    (case hdM => k_is)
    (case po_M => k_is)
    (case saM => k_is)
    (case oiM => k_is)
    (case otM => k_is)
    (case mkM => k_is)
    (case kcM => k_is)
    (case xXN => k_exc)
    (case kXN => k_is)
    (case bXN => k_is)
    (case tXN => k_is)
    (case dXN => k_is)
    (case uXN => k_is)
