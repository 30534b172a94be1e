import PyProof.Rows.All
import Wide.All
import OpenK.AllK
import Wide.FinOn
import HandS.ForMost
import HandS.ForExc
import HandS.IsInst
import HandS.MakeKwOnly
import HandS.ClsMeth
import HandS.Conv
import HandS.Codes
import HandS.Walk
import HandS.Style
import HandS.Flow
import HandS.Wide
import HandS.OwnEq
import HandS.OwnIter
import HandS.IterVal
import KE.KOwnIter
import PyProof.FactsAll.tuple_iterator_1
import HandS.Deep
import HandS.SortRule
import KE.GoesMore
import KE.GoesEnum
import KE.KLam
import KE.DataMinKey
import HandS.Base
import HandS.Call
import HandS.List
import HandS.Comp
import HandS.Lambda
import HandS.Nested
import HandS.Keys
import HandS.SortInts
import PyProof.NeKinds
import HandS.SetFor
import HandS.Strs
import HandS.TupSets
import KE.SortData
import HandS.Gcd
import KE.KMathGC
import HandS.Sort
import PyProof.AutoSeq1
import KE.KTurns
import HandS.TupLe
import HandS.Defaults
import HandS.Zip
import HandS.TryOnly
import HandS.TupAny
import HandS.EndTab
import HandS.Rev
import PySem.Challenge.RW_heaprows_k51_evidence_of_standing
set_option Elab.async false
set_option maxRecDepth 100000
set_option Elab.async false
set_option linter.all false
set_option maxRecDepth 100000
set_option maxHeartbeats 2000000
namespace Tw
open PySem PySem.Spec PyProof.Rows L2

/-! own rules: an instance with dunder methods -/
/-- a dunder method of the class at C, its def at f -/
structure Dn (K : PySem.W.Frag) (C : Addr) (m : Str) (f : Addr) : Prop where
  at_ : PySem.W.findIn K (.ref C) m = some (some (.ref f))
  fn : PySem.W.isFn K (.ref f) = true
  fi : PySem.W.fnIn K f = true


section
variable {X : Cx} {CX : CXT} {k n : Nat} {f C : Addr} {fd : FuncData} {ps : List Str} {sp : Sp} {E : XK} {o e : Expr} {pos : Pos} {ta tb : TE} {A1 : Around}
  {pins : List (Addr × Obj)} {σ : L2.St} {H : Hp} {s : Shared} {Q : VK}
theorem Sub.env0 (sb : Sub X n A1) (I : Inv X pins σ H s) : Env0 X.prog X.w X.K X.mg X.base A1 X.stack s H := by
  have q := I.env0
  exact ⟨by rw [sb.fr]; exact q.frames, q.mod, q.bs, q.bsz, q.funs, q.frf, q.hok, q.bare⟩
theorem run_sub {us : List Value} {vs : List V} (F : FnOk X.prog X.w X.K X.mg X.base CX k f fd ps sp) (sb : Sub X k A1) (hb : Binds X.K fd ps []) (hx : Passes CX X E) (I : Inv X pins σ H s) (r : Vals vs us) (h : sp vs H Q E) :
    wpAny (model X.prog X.w) A1 (call (.ref f) us) (EP X pins σ Q) X.xe s := by
  have hl : us.length = ps.length := by rw [← r.length]; exact F.len _ _ _ _ h
  have hb1 : BindsTo s fd ⟨us, []⟩ (ps.zip us) := by
    have z := hb s us I.kIn (by rw [List.append_nil]; exact hl)
    rw [List.append_nil] at z
    exact z
  refine wpAny_call (codeAny_mono (F.run A1 X.stack s H ⟨us, []⟩ us vs Q E sb.room (Sub.env0 sb I) hb1 r h) fun z s' hq => ?_)
  match z, hq with
  | .error e, hq => exact hx pins σ H s e s' I hq
  | .ok (.ret u), hq => exact I.after hq
  | .ok .next, hq => exact False.elim hq
  | .ok .brk, hq => exact False.elim hq
  | .ok .cont, hq => exact False.elim hq
theorem relR (a : Addr) : RelV (V.ref a) (Value.ref a) := rfl
theorem relB (b : Bool) : RelV (V.bl b) (Value.bool b) := rfl
theorem relI (i : Int) (t : Tok) : RelV (V.int i) (Value.int i t) := ⟨t, rfl⟩
/-- o[e] by the class's own def -/
def tGi (C : Addr) (sp : Sp) (E : XK) (ta tb : TE) : TE := fun σ H Q => ta σ H fun x H1 => tb σ H1 fun y H2 =>
  ∃ a dx fs, x = .ref a ∧ H2 a = some (.ins C dx fs) ∧ sp [.ref a, y] H2 Q E
theorem pe_gi (hd : Dn X.K C "__getitem__" f) (F : FnOk X.prog X.w X.K X.mg X.base CX k f fd ps sp) (hr : Room (k + 1) X.A) (hb : Binds X.K fd ps []) (hx : Passes CX X E) (ho : PE X o ta) (he : PE X e tb)
    (hs : ∀ v u, subscripted e true v u = runValue (.builtin "lifetime.subscript" ⟨[v, u], []⟩) := by intro _ _; with_unfolding_all rfl) :
    PE X (.Subscript o e pos) (tGi C sp E ta tb) := by
  refine ⟨fun pins s σ H Q I h => ?_⟩
  refine Subscript_ (binT ho he (R := fun x y H2 => ∃ a dx fs, x = .ref a ∧ H2 a = some (.ins C dx fs) ∧ sp [.ref a, y] H2 Q E) I h fun v u s2 x y H2 I2 rx ry ⟨a, dx, fs, ex, ha, q⟩ => ?_)
  subst ex
  obtain rfl : v = Value.ref a := rx
  obtain ⟨mA, O, rr, _, _, _⟩ := ins_get I2.hok ha
  obtain ⟨od, J, hl⟩ := O.look
  obtain ⟨m0, hF⟩ := I2.fr
  exact PySem.W.sub_K hF I2.ok.mod.kin J hd.at_ hd.fi hd.fn (run_sub F (Sub.in1 ⟨hr, rfl⟩) hb hx I2 (.cons (relR a) (.cons ry .nil)) q) (hs _ _)
/-- e in o, by the class's own def -/
def rIn (C : Addr) (sp : Sp) (E : XK) (neg : Bool) : R2 := fun x y H Q =>
  ∃ a dx fs, y = .ref a ∧ H a = some (.ins C dx fs) ∧ sp [.ref a, x] H (fun v H' => ∃ b, v = .bl b ∧ Q (.bl (if neg then !b else b)) H') E
theorem op_in_own (hd : Dn X.K C "__contains__" f) (F : FnOk X.prog X.w X.K X.mg X.base CX k f fd ps sp) (hr : Room k X.A) (hb : Binds X.K fd ps []) (hx : Passes CX X E) : OpR X (compareOp .In) (rIn C sp E false) := by
  intro pins s σ H x y v u Q I rx ry ⟨a, dx, fs, ey, ha, q⟩
  subst ey
  obtain rfl : u = Value.ref a := ry
  obtain ⟨mA, O, rr, _, _, _⟩ := ins_get I.hok ha
  obtain ⟨od, J, hl⟩ := O.look
  obtain ⟨m0, hF⟩ := I.fr
  refine PySem.W.in_K hF I.ok.mod.kin J hd.at_ hd.fn (thn (run_sub F ⟨hr, rfl⟩ hb hx I (.cons (relR a) (.cons rx .nil)) q) fun r s' ⟨z, H', I', rz, b, ez, q'⟩ => ?_)
  subst ez
  obtain rfl : r = Value.bool b := rz
  exact wpAny_truthy_bool ⟨_, _, I', relB b, q'⟩
/-- len(o) by the class's own def -/
def rLenO (C : Addr) (sp : Sp) (E : XK) : List V → Hp → VK → Prop := fun xs H Q =>
  ∃ a dx fs, xs = [.ref a] ∧ H a = some (.ins C dx fs) ∧ sp [.ref a] H (fun v H' => ∃ n : Nat, v = .int n ∧ n < 1000 ∧ Q (.int n) H') E
theorem call_len_own (hd : Dn X.K C "__len__" f) (F : FnOk X.prog X.w X.K X.mg X.base CX k f fd ps sp) (hr : Room (k + 1) X.A) (hb : Binds X.K fd ps []) (hx : Passes CX X E) : CallR X (.builtin "len") (rLenO C sp E) := by
  intro pins s σ H xs us Q I rv ⟨a, dx, fs, ex, ha, q⟩
  subst ex
  obtain ⟨u, rfl, ru⟩ := rv.one
  obtain rfl : u = Value.ref a := ru
  obtain ⟨mA, O, rr, _, _, _⟩ := ins_get I.hok ha
  obtain ⟨od, J, hl⟩ := O.look
  obtain ⟨m0, hF⟩ := I.fr
  refine PySem.W.len_K hF I.ok.mod.kin J hd.at_ hd.fn (thn (run_sub F (Sub.in1 ⟨hr, rfl⟩) hb hx I (.cons (relR a) .nil) q) fun r s' ⟨z, H', I', rz, n, ez, hn, q'⟩ => ?_)
  subst ez
  obtain ⟨t, rfl⟩ := rz
  exact ⟨⟨by omega, by omega⟩, _, _, I'.tok _, relI _ _, q'⟩
end

/-! for x in o, o an instance whose __iter__ says: return iter(self.F), F a tuple -/
def itTup (t : Addr) (i : Nat) : Obj := { cls := .type "tuple_iterator", data := .fields #[.ref t, .int (i : Nat) 0] }
def ItT (t it : Addr) (i : Nat) : HO := .ext fun h => h.get? it = some (itTup t i)
def rIterT (K : PySem.W.Frag) (n : Nat) : List V → Hp → VK → Prop := fun xs H Q => ∃ (t : Addr) (zs : List V), xs = [.ref t] ∧ SqT K H t zs ∧ ∀ it, H it = Option.none → n ≤ it → Q (.ref it) (upd H it (ItT t it 0))
section
variable {X : Cx}
theorem call_iterT : CallR X (.builtin "iter") (rIterT X.K X.s_0.heap.objs.size) := by
  intro pins s σ H xs us Q I r ⟨t, zs, e, hq, q⟩
  subst e
  obtain ⟨u, rfl, ru⟩ := r.one
  obtain rfl : u = Value.ref t := ru
  obtain ⟨its, rv, pl, hz⟩ := I.tuple hq
  refine Calls.call_function_entry (by decide +kernel) (by decide +kernel) PySem.W.kdk_entry_iter (PySem.W.kdk_args_iter _) ?_
  unfold Builtin.«iter»
  refine wpAny_bind (m := someArgs "iter" 1 2 _) (wpAny_of_eq (a := [Value.ref t]) (by first | rfl | kernel_rfl!) ?_)
  show wpAny _ _ (pyIter (.ref t) >>= _) _ _ _
  refine wpAny_bind (wpAny_pyIter_tuple (show s.heap.IsTuple t its.toArray from pl) ?_)
  have g : (s.heap.push (itTup t 0)).get? s.heap.objs.size = some (itTup t 0) := Heap.get?_push_size _ rfl
  have ok : ObjOk X.prog X.w (upd H s.heap.objs.size (ItT t s.heap.objs.size 0)) (s.heap.push (itTup t 0)) s.heap.objs.size (ItT t s.heap.objs.size 0) := ⟨g, ⟨_, g⟩, fun _ _ q k => k _ q⟩
  exact wpAny_pure ⟨_, rfl, .ref s.heap.objs.size, _, I.laid (t' := s.toks) (fun b u e => Heap.get?_push_of_some _ e) (Nat.le_refl _) ok, relR _, q _ (I.hok.fresh (Nat.le_refl _)) I.sz⟩
end

/-- a promise that may speak of how many objects there are when the def is called -/
def FnIt (P : Program) (w : World) (K : PySem.W.Frag) (mg : Str → Option Value) (base : Heap) (k : Nat) (f : Addr) (fd : FuncData) (ps : List Str) (sp : Nat → List V → Hp → VK → Prop) : Prop :=
  ∀ (A : Around) (outer : List Env) (s : Shared) (H : Hp) (us : List Value) (vs : List V) (Q : VK), Room k A → Env0 P w K mg base A outer s H → BindsTo s fd ⟨us, []⟩ (ps.zip us) → vs.length = ps.length → Vals vs us →
    sp s.heap.objs.size vs H Q → codeAny (model P w) A (.call (.ref f) ⟨us, []⟩) (CR CX0 outer P w H s Q E0) s
section
variable {P : Program} {w : World} {K : PySem.W.Frag} {mg : Str → Option Value} {base : Heap}
theorem fnIt_of {x qual : Str} {st : Stmt} {f : Addr} {fd : FuncData} {N ps : List Str} {k : Nat} {sp : Nat → List V → Hp → VK → Prop} (F : Fun K x qual st f fd) (S : FnScope N ps (defScope st))
    (hbody : ∀ (cdv : Value) (A : Around) (outer : List Env) (s : Shared) (H : Hp) (vs : List V) (Q : VK), Room k (A.deeper (envOfC qual (defScope st) s.heap.objs.size f cdv)) → sp s.heap.objs.size vs H Q →
      ∃ t, PSs (cxOf CX0 P w K mg base N qual (defScope st) f cdv A outer s H E0).nox (defBody st) t ∧ t { nx := fun _ H' => Q .non H', rt := Q } (start N vs) H) : FnIt P w K mg base (k + 1) f fd ps sp := by
  obtain ⟨oc, od, kV, doc, pm, an, cdv, ct, osl, rfl, lk, hcd⟩ := F.ex
  intro A outer s H us vs Q hr e0 hb hl r hsp
  have kin : K.In s.heap := e0.mod.kin.keeps fun b o e => (e0.bs b o e).1
  have lim : s.heap.NoLimit := e0.mod.nolimit.keeps fun b o e => (e0.bs b o e).1
  have kinds : ∀ y ∈ ps.zip us, (defScope st).names.lookup y.1 = some .local ∨ ((defScope st).names.lookup y.1 = some .cell ∧ ((cellsFrom (s.heap.objs.size + 1) (defScope st).names []).lookup y.1).isSome = true) := by
    intro y hy
    cases S.par y.1 (List.of_mem_zip (a := y.1) (b := y.2) hy).1 with
    | inl q => exact .inl q
    | inr q => exact .inr ⟨q, PySem.W.cellsFrom_some _ _ _ (.inl q)⟩
  apply codeAny_call_function hr.depth (kin _ _ lk) rfl S.co S.gen rfl (PySem.W.codeRec_of kin hcd) (hb _ _ _ _ ?_)
  apply wpAny_newFunctionEnv_cells S.kind kinds
  intro env he s1 x
  subst he
  refine ⟨lim.keeps x.toInCall.keep, codeAny_func ?_⟩
  obtain ⟨t, ht, hq⟩ := hbody cdv A outer s H vs Q (hr.deeper _) hsp
  have I := inv_start (CX := CX0) (P := P) (w := w) (E := E0) (cd := cdv) (qual := qual) (f := f) (outer := outer) S hr.hd e0 hl r x
  refine wpAny_mono (ht.nox.run [] s1 (start N vs) H _ I hq) (fun fl s' hs => ?_) fun e s' hs => hs
  match fl, hs with
  | .ret u, ⟨v, σ', H', J, rv, q⟩ => exact ⟨v, H', J.os, J.bare, J.base, J.hok, rv, q⟩
  | .next, ⟨σ', H', J, q⟩ => exact ⟨V.non, H', J.os, J.bare, J.base, J.hok, rfl, q⟩
  | .brk, ⟨_, _, _, q⟩ => exact False.elim q
  | .cont, ⟨_, _, _, q⟩ => exact False.elim q
end
/-- what such an __iter__ promises -/
def spIter (K : PySem.W.Frag) (C : Addr) (fld : Str) : Nat → List V → Hp → VK → Prop := fun n vs H Q => ∃ a dx fs t zs, vs = [.ref a] ∧ H a = some (.ins C dx fs) ∧ fs.lookup fld = some (.ref t) ∧ SqT K H t zs ∧
  ∀ it, H it = Option.none → n ≤ it → Q (.ref it) (upd H it (ItT t it 0))
/-- x in o, for a loop: o's own tuple is walked -/
def iOwn (K : PySem.W.Frag) (C : Addr) (fld : Str) (to : TE) : TI := fun σ H R => to σ H fun x H1 => ∃ a dx fs t zs, x = .ref a ∧ H1 a = some (.ins C dx fs) ∧ fs.lookup fld = some (.ref t) ∧ SqT K H1 t zs ∧ R (Itt K t) H1
section
variable {X : Cx} {k : Nat} {f C : Addr} {fd : FuncData} {fld : Str} {tg o : Expr} {to : TE} {pins : List (Addr × Obj)} {σ : L2.St} {H : Hp} {s : Shared} {A1 : Around}
theorem run_iter {a t dx : Addr} {fs : List (Str × V)} {zs : List V} (F : FnIt X.prog X.w X.K X.mg X.base k f fd ["self"] (spIter X.K C fld)) (sb : Sub X k A1) (hb : Binds X.K fd ["self"] []) (I : Inv X pins σ H s)
    (ha : H a = some (.ins C dx fs)) (hf : fs.lookup fld = some (.ref t)) (ht : SqT X.K H t zs) {E : Value → Shared → Prop} :
    wpAny (model X.prog X.w) A1 (call (.ref f) [.ref a]) (fun u s' => ∃ it, u = .ref it ∧ s.heap.objs.size ≤ it ∧ H it = Option.none ∧ Inv X pins σ (upd H it (ItT t it 0)) s') E s := by
  have hb1 : BindsTo s fd ⟨[.ref a], []⟩ ((["self"] : List Str).zip [Value.ref a]) := by
    have z := hb s [.ref a] I.kIn rfl
    exact z
  refine wpAny_call (codeAny_mono (F A1 X.stack s H [.ref a] [.ref a] (fun v H' => ∃ it, v = .ref it ∧ s.heap.objs.size ≤ it ∧ H it = Option.none ∧ H' = upd H it (ItT t it 0)) sb.room (Sub.env0 sb I) hb1 rfl (.cons (relR a) .nil)
    ⟨a, dx, fs, t, zs, rfl, ha, hf, ht, fun it h0 hn => ⟨it, rfl, hn, h0, rfl⟩⟩) fun z s' hq => ?_)
  match z, hq with
  | .error e, hq => exact hq.elim
  | .ok (.ret u), hq =>
    obtain ⟨v, H', I', rv, it, ev, hn, h0, eH⟩ := I.after hq
    subst ev
    rw [eH] at I'
    obtain rfl : u = Value.ref it := rv
    exact ⟨it, rfl, hn, h0, I'⟩
  | .ok .next, hq => exact False.elim hq
  | .ok .brk, hq => exact False.elim hq
  | .ok .cont, hq => exact False.elim hq
theorem pi_own (hd : Dn X.K C "__iter__" f) (F : FnIt X.prog X.w X.K X.mg X.base k f fd ["self"] (spIter X.K C fld)) (hr : Room k X.A) (hb : Binds X.K fd ["self"] []) (ho : PE X o to) : PI X tg o (iOwn X.K C fld to) := by
  refine ⟨fun pins s σ H R I h => ?_⟩
  refine thn (ho.run pins s σ H _ I h) fun u s1 ⟨x, H1, I1, rx, a, dx, fs, t, zs, ex, ha, hf, ht, q⟩ => ?_
  subst ex
  obtain rfl : u = Value.ref a := rx
  obtain ⟨mA, O, rr, _, _, _⟩ := ins_get I1.hok ha
  obtain ⟨od, J, hl⟩ := O.look
  obtain ⟨m0, hF⟩ := I1.fr
  refine PySem.W.owit_iter hF I1.ok.mod.kin J hd.at_ hd.fn (thn (run_iter F ⟨hr, rfl⟩ hb I1 ha hf ht) fun r s2 ⟨it, er, hn, h0, I2⟩ => ?_)
  subst er
  have e2 : upd H1 it (ItT t it 0) it = some (ItT t it 0) := upd_same
  have g : s2.heap.get? it = some (itTup t 0) := (I2.hok it _ e2).1
  have hT : s2.TypeIs (.ref it) "tuple_iterator" := ⟨_, g, rfl⟩
  have hfp := ItX.inv_fp I2 e2 (Nat.le_trans I1.sz hn)
  have I3 := ItX.inv_drop I2 e2
  rw [ItX.dropH_upd h0] at I3 hfp
  unfold PySem.W.OwitIt
  refine wpAny_specialOf (name := Str.ofString "__next__") hT PySem.F.slot_tuple_iterator_next.lookup ?_
  refine ⟨it, [it], _, _, H1, rfl, I3, turn_tuple t it, ⟨_, g, rfl, rfl⟩, fun b hb => ?_, q⟩
  rw [List.mem_singleton.mp hb]
  exact hfp
end
/-! C.m(e, .., k = v, ..), m a classmethod; cls(e, .., k = v, ..), cls a local name that holds the class -/
def tCMethK (C : Addr) (n m : Nat) (sp : Sp) (gV : List V → List V → List V) (E : XK) (ta : TE) (t tk : TA) : TE := fun σ H Q => ta σ H fun x H1 => x = .ref C ∧ t σ H1 fun vs H2 => tk σ H2 fun zs H3 => (.ref C :: vs).length = n ∧ zs.length = m ∧ sp (gV (.ref C :: vs) zs) H3 Q E
def tMakeLK (i : Nat) (C : Addr) (n m : Nat) (sp : Sp) (gV : List V → List V → List V) (E : XK) (t tk : TA) : TE := fun σ H Q => σ[i]? = some (some (.ref C)) ∧ tMakeK C n m sp gV E t tk σ H Q
section
variable {X : Cx} {CX : CXT} {k n i : Nat} {C p g f : Addr} {mc : Value} {sp : Sp} {E : XK} {o e : Expr} {es : List Expr} {kws : List Keyword} {m x : Str} {pos apos xpos : Pos} {ta : TE} {t tk : TA} {pl : Sem Bool} {fd : FuncData} {ps ks : List Str}
  {gv : List Value → List Value → List Value} {gV : List V → List V → List V}
theorem pe_cmethK (he : PE X o ta) (r : ClX.CRead X.K C mc) (c : ClX.CMet X.K C mc m p g) (F : FnOk X.prog X.w X.K X.mg X.base CX k g fd ps sp) (hr : Room k X.A) (hb : KBn X.K fd ps n ks gv gV) (hx : Passes CX X E) (ha : PA X (e :: es) t) (hkw : PK X kws tk)
    (hall : (backToKw pos (keywordEach kws X.env)).all (·.1.isSome) = true := by rfl) (hks : (backToKw pos (keywordEach kws X.env)).filterMap (·.1) = ks := by rfl)
    (hst : starEach (e :: es) X.env = (false, eval e X.env) :: starEach es X.env := by rfl) (hpl : ((backTo pos (starEach (e :: es) X.env)).any (·.1) || (backToKw pos (keywordEach kws X.env)).any (·.1.isNone)) = false := by rfl)
    (ht : eval (.Call (.Attribute o m apos) (e :: es) kws pos) X.env = (do
      let ov ← eval o X.env
      standAt apos.atName
      let (f, first) ← holding [ov] (getMethod ov m pl)
      callWith pos f first (backTo pos (starEach (e :: es) X.env)) (backToKw pos (keywordEach kws X.env))) := by rfl) :
    PE X (.Call (.Attribute o m apos) (e :: es) kws pos) (tCMethK C n ks.length sp gV E ta t tk) := by
  refine ⟨fun pins s σ H Q I h => ?_⟩
  refine PySem.W.methodCall_KW (pl := pl) (thn (he.run pins s σ H _ I h) fun u s1 ⟨x, H1, I1, rx, ex, q⟩ => ?_) ht
  subst ex
  obtain rfl : u = Value.ref C := rx
  refine ClX.getmethcm_ok I1 r c fun s2 I2 => ?_
  refine PySem.W.callWith_of (P := PySem.W.MethP X.K s1.heap.objs.size g (.ref C)) hpl (PySem.W.keeps_M c.fi) (evalArgs_kw2 hall (thn (ha.run pos _ s2 σ H1 _ I2 q) fun us s3 ⟨vs, H2, I3, rv, q2⟩ => ?_) hst)
  refine thn (hkw.run pos _ s3 σ H2 _ I3 q2) fun ws s4 ⟨zs, H3, I4, rz, l1, l2, q3⟩ => ⟨⟨ClX.pin_at I4, I4.kIn⟩, ?_⟩
  rw [hks]
  have r2 : Vals (V.ref C :: vs) (Value.ref C :: us) := .cons (relR C) rv
  have n1 : (Value.ref C :: us).length = n := r2.length.symm.trans l1
  have I5 := ClX.unpin I4
  refine wpAny_call (PySem.W.method_call (ClX.pin_at I4) (codeAny_mono (F.run X.A X.stack s4 H3 ⟨Value.ref C :: us, ks.zip ws⟩ _ _ Q E hr I5.env0 (hb.to _ (Value.ref C :: us) ws I5.kIn n1 (rz.length.symm.trans l2)) (hb.rel r2 rz) q3) fun z s' hq => ?_))
  match z, hq with
  | .error e, hq => exact hx pins σ H3 s4 e s' I5 hq
  | .ok (.ret u), hq => exact I5.after hq
  | .ok .next, hq => exact False.elim hq
  | .ok .brk, hq => exact False.elim hq
  | .ok .cont, hq => exact False.elim hq
theorem pe_makeLK (M : Mk X.K C f) (F : FnOk X.prog X.w X.K X.mg X.base CX k f fd ps sp) (hr : Room (k + 1) X.A) (hb : KBn X.K fd ps (n + 1) ks gv gV) (hx : Passes CX X E) (ha : PA X (e :: es) t) (hkw : PK X kws tk)
    (hN : X.N[i]? = some x) (hv : Vis X.env.scope x) (hd : (x == ("__debug__" : Str)) = false := by decide) (hcd : (x == ("__classdict__" : Str)) = false := by decide)
    (hall : (backToKw pos (keywordEach kws X.env)).all (·.1.isSome) = true := by rfl) (hks : (backToKw pos (keywordEach kws X.env)).filterMap (·.1) = ks := by rfl)
    (hst : starEach (e :: es) X.env = (false, eval e X.env) :: starEach es X.env := by rfl) (hpl : ((backTo pos (starEach (e :: es) X.env)).any (·.1) || (backToKw pos (keywordEach kws X.env)).any (·.1.isNone)) = false := by rfl) :
    PE X (.Call (.Name x xpos) (e :: es) kws pos) (tMakeLK i C n ks.length sp gV E t tk) := by
  refine ⟨fun pins s σ H Q I ⟨h0, h⟩ => ?_⟩
  refine wpAny_Call_Name_kw (thn ((pe_var (pos := xpos) (i := i) hN hv hd hcd).run pins s σ H (fun v H1 => v = .ref C ∧ H1 = H) I ⟨.ref C, h0, rfl, rfl⟩) fun u s1 ⟨v, H1, I1, r1, ev, eH⟩ => ?_)
  subst ev
  rw [eH] at I1
  obtain rfl : u = Value.ref C := r1
  refine PySem.W.callWith_KW (h₀ := X.base) I1.ok.mod.kin M.kp hall (thn (ha.run pos pins s1 σ H _ I1 h) fun us s2 ⟨vs, H2, I2, r, q⟩ => ?_) hpl hst
  refine thn (hkw.run pos pins s2 σ H2 _ I2 q) fun ws s3 ⟨zs, H3, I3, rz, l1, l2, q2⟩ => ⟨I3.kIn, ?_⟩
  rw [hks]
  exact run_makeK M F hr hb hx I3 r rz l1 l2 q2
end

/-! heaps that only grow -/
theorem Same.up {H : Hp} {p : Addr} {o : HO} (h : H p = Option.none) : Same H (upd H p o) := fun b u e => by
  rw [upd_ne (ne_of_none e h)]
  exact e
/-- a list under way at D, which was not there in H1 -/
structure Acc (H1 : Hp) (D : Addr) (acc : List V) (H : Hp) : Prop where
  s : Same H1 H
  n : H1 D = Option.none
  a : H D = some (.lst acc)
theorem Acc.start {H1 : Hp} {D : Addr} (n : H1 D = Option.none) : Acc H1 D [] (upd H1 D (.lst [])) := ⟨Same.up n, n, upd_same⟩
theorem Acc.same {H1 H H' : Hp} {D : Addr} {acc : List V} (h : Acc H1 D acc H) (s : Same H H') : Acc H1 D acc H' := ⟨h.s.trans s, h.n, s _ _ h.a⟩
theorem Acc.push {H1 H : Hp} {D : Addr} {acc zs : List V} (h : Acc H1 D acc H) : Acc H1 D zs (upd H D (.lst zs)) :=
  ⟨fun b o e => by rw [upd_ne (ne_of_none e h.n)]; exact h.s b o e, h.n, upd_same⟩
theorem Same.none' {H H' : Hp} (s : Same H H') {p : Addr} (h : H' p = Option.none) : H p = Option.none := s.free h
theorem Same.of_upd {H H' : Hp} {p : Addr} {o : HO} (h : H p = Option.none) (s : Same (upd H p o) H') : Same H H' := (Same.up h).trans s
/-- a list of ints as values -/
theorem ints_at {ns : List Int} {i : Nat} {x : V} (h : (ns.map V.int)[i]? = some x) : ∃ (hi : i < ns.length), x = .int ns[i] := by
  rw [List.getElem?_map] at h
  cases e : ns[i]? with
  | none => rw [e] at h; cases h
  | some u =>
    rw [e] at h
    obtain ⟨hi, rfl⟩ := List.getElem?_eq_some_iff.mp e
    exact ⟨hi, (Option.some.inj h).symm⟩

/-! comprehensions that pick -/
section
variable {α : Type} {H1 H : Hp} {D : Addr} {ks : List α} {f : α → Option V} {i : Nat} {c : α → V}
def PickI (H1 : Hp) (D : Addr) (ks : List α) (f : α → Option V) : Nat → Hp → Prop := fun i H => Acc H1 D ((ks.take i).filterMap f) H
theorem pick_start (n : H1 D = Option.none) : PickI H1 D ks f 0 (upd H1 D (.lst [])) := Acc.start n
theorem take_fm (hi : i < ks.length) : (ks.take (i + 1)).filterMap f = (ks.take i).filterMap f ++ (f ks[i]).toList := by
  rw [List.take_succ_eq_append_getElem hi, List.filterMap_append]
  cases h : f ks[i] <;> simp [h]
theorem pick_yes {H' : Hp} {y : V} (hi : i < ks.length) (hl : ks.length ≤ 1000) (e : f ks[i] = some y) (s : Same H H') (h : PickI H1 D ks f i H) :
    ∃ acc, H' D = some (.lst acc) ∧ acc.length < sizeLine ∧ PickI H1 D ks f (i + 1) (upd H' D (.lst (acc ++ [y]))) := by
  have h2 := Acc.same h s
  refine ⟨_, h2.a, small1000 ?_, ?_⟩
  · exact Nat.le_trans (Nat.le_trans (List.length_filterMap_le _ _) (List.length_take_le _ _)) (by omega)
  · unfold PickI
    rw [take_fm hi, e]
    exact h2.push
theorem pick_no {H' : Hp} (hi : i < ks.length) (e : f ks[i] = none) (s : Same H H') (h : PickI H1 D ks f i H) : PickI H1 D ks f (i + 1) H' := by
  unfold PickI
  rw [take_fm hi, e, Option.toList_none, List.append_nil]
  exact Acc.same h s
theorem pick_end {m : Nat} (hm : m = ks.length) (h : PickI H1 D ks f m H) : Acc H1 D (ks.filterMap f) H := by
  subst hm
  unfold PickI at h
  rw [List.take_length] at h
  exact h
theorem map_at {x : V} (h : (ks.map c)[i]? = some x) : ∃ hi : i < ks.length, x = c ks[i] := by
  rw [List.getElem?_map] at h
  cases e : ks[i]? with
  | none => rw [e] at h; cases h
  | some u =>
    rw [e] at h
    obtain ⟨hi, rfl⟩ := List.getElem?_eq_some_iff.mp e
    exact ⟨hi, (Option.some.inj h).symm⟩
end
end Tw

set_option Elab.async false
set_option linter.all false
set_option maxRecDepth 100000
set_option maxHeartbeats 2000000
namespace Tw
open PySem PySem.Spec PyProof.Rows L2
open PySem.W (InstAt looks_findIn looks_subIn ifBound_K cmp_K)
/-- a class with an own __eq__ and the usual != -/
structure EqC (K : PySem.W.Frag) (C f : Addr) : Prop where
  eq : PySem.W.findIn K (.ref C) "__eq__" = some (some (.ref f))
  fn : PySem.W.isFn K (.ref f) = true
  ne : PySem.W.findIn K (.ref C) "__ne__" = some (some (.builtin "object.__ne__"))
  ob : PySem.W.subIn K (.ref C) (.type "object") = some true
  ni : PySem.W.subIn K (.type "int") (.ref C) = some false
  nt : PySem.W.subIn K (.type "tuple") (.ref C) = some false

section
variable {prog : Program} {w : World} {A : Around} {E : Value → Shared → Prop} {s : Shared} {K : PySem.W.Frag} {x C L f : Addr} {h₀ : Heap} {m : Str → Option Value} {ox : Obj} {od : Option Obj} {b tb : Value}
theorem ne_entry {Q : PySem.Fin → Shared → Prop} (hu : A.units < cLine) (X : K.In s.heap) (I : InstAt s.heap x ox C od) (c : EqC K C f)
    (h : wpAny (model prog w) A (call (.ref f) [.ref x, b]) (fun v s' => ∃ r, v = .bool r ∧ Q (.done (.ret (.bool (!r)))) s') E s) :
    wpAny (model prog w) A (Builtin.«object.__ne__» ⟨[.ref x, b], []⟩) Q E s := by
  unfold Builtin.«object.__ne__»
  refine wpAny_bind (wpAny_of_eq (a := (Value.ref x, [b])) (by first | rfl | kernel_rfl!) ?_)
  refine wpAny_bind (wpAny_cRoomFor hu ?_)
  refine wpAny_bind (m := callSpecialIfBound? (.ref x) (Str.ofString "__eq__") [b]) (ifBound_K X I c.eq c.fn (wpAny_mono h (fun v s' hv => ?_) fun _ _ e => e))
  obtain ⟨r, e, q⟩ := hv
  subst e
  refine wpAny_bind (m := truthy (.bool r)) (wpAny_truthy_bool ?_)
  exact wpAny_pure q
theorem ne_call {Q : Value → Shared → Prop} (hu : A.in1.units < cLine) (X : K.In s.heap) (I : InstAt s.heap x ox C od) (c : EqC K C f)
    (h : wpAny (model prog w) A.in1 (call (.ref f) [.ref x, b]) (fun v s' => ∃ r, v = .bool r ∧ Q (.bool (!r)) s') E s) :
    wpAny (model prog w) A (call (.builtin "object.__ne__") [.ref x, b]) Q E s := by
  have t2 : PySem.W.Looks (model prog w) s.heap (isInstance (.ref x) (.type "object")) true := I.type.andThen (looks_subIn X c.ob)
  refine wpAny_call (codeAny_call_builtin F.cmp_object.ne.plain F.cmpEntry_ne (PySem.W.check_slot F.cmpKind_ne F.cmpSplit_ne t2 (F.cmpArgs_ne _ _) (ne_entry hu X I c (wpAny_mono h (fun v s' hv => ?_) fun _ _ e => e))))
  obtain ⟨r, e, q⟩ := hv
  exact ⟨r, e, q⟩
theorem ne_bound {Q : Option Value → Shared → Prop} (hu : A.in1.units < cLine) (X : K.In s.heap) (I : InstAt s.heap x ox C od) (c : EqC K C f)
    (h : wpAny (model prog w) A.in1 (call (.ref f) [.ref x, b]) (fun v s' => ∃ r, v = .bool r ∧ Q (some (.bool (!r))) s') E s) :
    wpAny (model prog w) A (callSpecialIfBound? (.ref x) "__ne__" [b]) Q E s := by
  simp only [callSpecialIfBound?, bindSpecialIfBound?]
  refine wpAny_holding (wpAny_bind (wpAny_bind (wpAny_bind (I.type.here ((looks_findIn X c.ne).here ?_)))))
  refine wpAny_bind (wpAny_askSetting (wpAny_ite ?_))
  have fin : wpAny (model prog w) A (call (.builtin "object.__ne__") ([.ref x] ++ [b]) >>= fun v => pure (some v)) Q E s :=
    wpAny_bind (ne_call hu X I c (wpAny_mono h (fun v s' ⟨r, e, q⟩ => ⟨r, e, wpAny_pure q⟩) fun _ _ e => e))
  have bd := F.cmp_object.ne.bind (.ref x)
  split
  · refine wpAny_bind ?_
    rw [bd]
    exact wpAny_pure (wpAny_pure (by exact fin))
  · refine wpAny_tryCatch (wpAny_bind ?_)
    rw [bd]
    exact wpAny_pure (wpAny_pure (by exact fin))
theorem ne_K {Q : Value → Shared → Prop} (hu : A.in1.units < cLine) (hu0 : A.units < cLine) (F : Fr h₀ L s.heap m) (X₀ : K.In h₀) (I : InstAt s.heap x ox C od) (hb : PySem.W.Looks (model prog w) s.heap (typeOf b) tb) (hn : PySem.W.notFirst K C tb = true) (c : EqC K C f)
    (h : wpAny (model prog w) A.in1 (call (.ref f) [.ref x, b]) (fun v s' => ∃ r, v = .bool r ∧ Q (.bool (!r)) s') E s) : wpAny (model prog w) A (richCompare .NotEq (.ref x) b) Q E s := by
  have X := X₀.keeps F.keep
  have one : wpAny (model prog w) A (tryCompare (.ref x) (cmpInfo .NotEq).2.1 b) (fun r s' => ∃ v, r = some v ∧ Q v s') E s := by
    unfold tryCompare
    refine wpAny_bind (ne_bound hu X I c (wpAny_mono h (fun v s' ⟨r, e, q⟩ => ⟨r, e, ?_⟩) fun _ _ e => e))
    exact wpAny_pure ⟨_, rfl, q⟩
  have two : ∀ r s', (∃ v, r = some v ∧ Q v s') → ∃ v, r = some v ∧ Q v s' := fun _ _ z => z
  unfold richCompare
  simp only [oneThing_ref]
  refine wpAny_holding (wpAny_bind (wpAny_cRoomFor hu0 ?_))
  refine wpAny_bind (I.type.here (wpAny_bind (hb.here ?_)))
  split
  · rename_i q
    have e : PySem.W.subIn K tb (.ref C) = some false := by
      rcases Bool.or_eq_true_iff.mp hn with e | e
      · rw [beq_iff_eq.mp e] at q; simp at q
      · exact beq_iff_eq.mp e
    refine wpAny_bind ((looks_subIn X e).here ?_)
    simp only [Bool.false_eq_true, if_false]
    refine wpAny_bind (wpAny_mono one (fun r s' ⟨v, ev, hq⟩ => ?_) fun _ _ e => e)
    subst ev
    exact wpAny_pure hq
  · refine wpAny_bind (wpAny_pure ?_)
    simp only [Bool.false_eq_true, if_false]
    refine wpAny_bind (wpAny_mono one (fun r s' ⟨v, ev, hq⟩ => ?_) fun _ _ e => e)
    subst ev
    exact wpAny_pure hq
end
/-! as rules -/
section
variable {X : Cx} {CX : CXT} {k : Nat} {f C : Addr} {fd : FuncData} {ps : List Str} {sp : Sp} {E : XK}
/-- the other operand: an instance of the same class, an int, a tuple -/
inductive Oth (H : Hp) (C : Addr) : V → Prop where
  | ins {a dx : Addr} {fs : List (Str × V)} (h : H a = some (.ins C dx fs)) : Oth H C (.ref a)
  | int (i : Int) : Oth H C (.int i)
  | tup {a : Addr} {xs : List V} (h : H a = some (.tup xs)) : Oth H C (.ref a)
def rEqO (C : Addr) (sp : Sp) (E : XK) (neg : Bool) : R2 := fun x y H Q =>
  ∃ a dx fs, x = .ref a ∧ H a = some (.ins C dx fs) ∧ Oth H C y ∧ sp [.ref a, y] H (fun v H' => ∃ r, v = .bl r ∧ Q (.bl (if neg then !r else r)) H') E
theorem oth_type {pins : List (Addr × Obj)} {σ : L2.St} {H : Hp} {s : Shared} {y : V} {u : Value} (I : Inv X pins σ H s) (ry : RelV y u) (c : EqC X.K C f) (o : Oth H C y) :
    ∃ tb, PySem.W.Looks (model X.prog X.w) s.heap (typeOf u) tb ∧ PySem.W.notFirst X.K C tb = true := by
  cases o with
  | @ins a dx fs h =>
    obtain rfl : u = Value.ref a := ry
    obtain ⟨mA, O, rr, _, _, _⟩ := ins_get I.hok h
    obtain ⟨od, J, hl⟩ := O.look
    exact ⟨_, J.type, by unfold PySem.W.notFirst; simp⟩
  | int i =>
    obtain ⟨t, rfl⟩ := ry
    exact ⟨.type "int", .now, by unfold PySem.W.notFirst; rw [c.ni]; simp⟩
  | @tup a xs h =>
    obtain rfl : u = Value.ref a := ry
    obtain ⟨_, _, _, ob, h1, h2, _⟩ := (show ObjOk X.prog X.w H s.heap a (.tup xs) from I.hok a _ h)
    exact ⟨.type "tuple", h2 ▸ (PySem.W.Looks.ld h1).andThen .now, by unfold PySem.W.notFirst; rw [c.nt]; simp⟩
theorem op_eq_own (c : EqC X.K C f) (F : FnOk X.prog X.w X.K X.mg X.base CX k f fd ps sp) (hr : Room k X.A) (hb : Binds X.K fd ps []) (hx : Passes CX X E) : OpR X (compareOp .Eq) (rEqO C sp E false) := by
  intro pins s σ H x y v u Q I rx ry ⟨a, dx, fs, ex, ha, o, q⟩
  subst ex
  obtain rfl : v = Value.ref a := rx
  obtain ⟨mA, O, rr, _, _, _⟩ := ins_get I.hok ha
  obtain ⟨od, J, hl⟩ := O.look
  obtain ⟨m0, hF⟩ := I.fr
  obtain ⟨tb, lk, nf⟩ := oth_type I ry c o
  show wpAny _ _ (richCompare .Eq (.ref a) u) _ _ _
  refine cmp_K hr.units0 hF I.ok.mod.kin J lk nf c.eq c.fn (thn (run_sub F ⟨hr, rfl⟩ hb hx I (.cons (relR a) (.cons ry .nil)) q) fun r s' ⟨z, H', I', rz, b, ez, q'⟩ => ?_)
  subst ez
  obtain rfl : r = Value.bool b := rz
  exact ⟨_, H', I', relB b, q'⟩
theorem op_ne_own (c : EqC X.K C f) (F : FnOk X.prog X.w X.K X.mg X.base CX k f fd ps sp) (hr : Room (k + 1) X.A) (hb : Binds X.K fd ps []) (hx : Passes CX X E) : OpR X (compareOp .NotEq) (rEqO C sp E true) := by
  intro pins s σ H x y v u Q I rx ry ⟨a, dx, fs, ex, ha, o, q⟩
  subst ex
  obtain rfl : v = Value.ref a := rx
  obtain ⟨mA, O, rr, _, _, _⟩ := ins_get I.hok ha
  obtain ⟨od, J, hl⟩ := O.look
  obtain ⟨m0, hF⟩ := I.fr
  obtain ⟨tb, lk, nf⟩ := oth_type I ry c o
  show wpAny _ _ (richCompare .NotEq (.ref a) u) _ _ _
  refine ne_K (Room.units0 hr.in1) hr.units0 hF I.ok.mod.kin J lk nf c (thn (run_sub F (Sub.in1 ⟨hr, rfl⟩) hb hx I (.cons (relR a) (.cons ry .nil)) q) fun r s' ⟨z, H', I', rz, b, ez, q'⟩ => ?_)
  subst ez
  exact ⟨b, rz, _, H', I', relB (!b), q'⟩
end
end Tw

set_option Elab.async false
set_option linter.all false
set_option maxRecDepth 100000
set_option maxHeartbeats 4000000
namespace Tw
open PySem PySem.Spec PyProof.Rows L2
/-! enumerate(t), t a tuple -/
def enO (s : Shared) : Obj := { cls := .type "enumerate", data := .fields #[.none, .bool false, .ref s.heap.objs.size, rawInt 0, .none, .none] }
theorem enum_newT (t : Addr) (items : Array Value) :
    Meets (Builtin.«enumerate.__new__» ⟨[.type "enumerate", .ref t], []⟩) (fun _ R s => s.heap.IsTuple t items ∧
      R (.ok (.ret (.ref (s.heap.push (itTup t 0)).objs.size))) { s with heap := (s.heap.push (itTup t 0)).push (enO s) }) :=
  .of_wp fun prog w A R s h => by
    obtain ⟨hp, g, d, tk, os⟩ := s
    obtain ⟨h1, h⟩ := h
    have hsub := sub_enumerate
    have q1 : ∀ {A' : Around} {E : Value → Shared → Prop} {Q : Value → Shared → Prop}, Q (.ref hp.objs.size) ⟨hp.push (itTup t 0), g, d, tk, os⟩ → wpAny (model prog w) A' (pyIter (.ref t)) Q E ⟨hp, g, d, tk, os⟩ :=
      fun q => wpAny_pyIter_tuple (s := ⟨hp, g, d, tk, os⟩) h1 q
    wp_walk using q1
    refine wpAny_stack_any fun st => wpAny_pure ?_
    split
    · rename_i c _ _ _ _ _
      cases (c == Value.type "enumerate")
      · wp_walk using q1
        exact ⟨_, rfl, h⟩
      · wp_walk using q1
        exact ⟨_, rfl, h⟩
    · wp_walk using q1
      exact ⟨_, rfl, h⟩
section
variable {prog : Program} {w : World} {A : Around} {E : Value → Shared → Prop} {s : Shared}
theorem call_enumT {t : Addr} {items : Array Value} {Q : Value → Shared → Prop} (hT : s.heap.IsTuple t items)
    (h : ∀ h', IsEnum h' (s.heap.objs.size + 1) s.heap.objs.size 0 .none → h'.IsTupleIter s.heap.objs.size t 0 → h'.objs.size = s.heap.objs.size + 2 →
      (∀ b o, s.heap.get? b = some o → h'.get? b = some o) → Q (.ref (s.heap.objs.size + 1)) { s with heap := h' }) :
    wpAny (model prog w) A (call (.type "enumerate") [.ref t]) Q E s := by
  refine callType_new F.called_enumerate (by decide) (F.typeCall_enumerate_1 _) (F.newCall_enumerate_1 _) (fun obj => F.args_object_init_2 obj _) F.entry_enumerate_new (enum_newT t items) ⟨hT, ?_⟩
  have hz : (s.heap.push (itTup t 0)).objs.size = s.heap.objs.size + 1 := Heap.size_push ..
  show _ ∧ _
  rw [hz]
  have he : IsEnum ((s.heap.push (itTup t 0)).push (enO s)) (s.heap.objs.size + 1) s.heap.objs.size 0 .none := by
    have q := Heap.get?_push_size (s.heap.push (itTup t 0)) (o := enO s) rfl
    rw [hz] at q
    exact q
  have hi : ((s.heap.push (itTup t 0)).push (enO s)).IsTupleIter s.heap.objs.size t 0 := ⟨_, Heap.get?_push_of_some _ (Heap.get?_push_size _ rfl), rfl, rfl⟩
  exact ⟨⟨_, he, rfl⟩, h _ he hi (by rw [Heap.size_push, hz]) fun b o x => Heap.get?_push_of_some _ (Heap.get?_push_of_some _ x)⟩
end
def IteT (K : PySem.W.Frag) (a : Addr) : It :=
  ⟨fun i H => ∃ (xs : List V) (x : V), SqT K H a xs ∧ xs[i]? = some x, fun i H v H' => ∃ T x, v = .ref T ∧ H T = Option.none ∧ H' = upd H T (.tup [.int (i : Nat), x]) ∧ ∀ xs, SqT K H a xs → xs[i]? = some x, fun i H => ∃ xs : List V, SqT K H a xs ∧ xs.length = i⟩
theorem turn_enumT {P : Program} {w : World} {K : PySem.W.Frag} {elts : List Expr} {kk : Nat} {tpos : Pos} (a e it : Addr) :
    Turn P w K (.Tuple elts kk tpos) (IteT K a) [e, it] e (fun i h => (∃ old, IsEnum h e it ((i : Nat) : Int) old) ∧ h.IsTupleIter it a i ∧ e ≠ it) where
  mem := by simp
  obj := fun i h st b hb => by
    obtain ⟨⟨old, he⟩, ⟨o, ho, hc, hd⟩, _⟩ := st
    rcases (show b = e ∨ b = it by simpa using hb) with rfl | rfl
    · exact ⟨_, he, fun v q => nomatch q⟩
    · exact ⟨o, ho, fun v q => by rw [hd] at q; cases q⟩
  keep := fun i h h' st k => let ⟨⟨old, he⟩, hi, hne⟩ := st; ⟨⟨old, k e (by simp) _ he⟩, hi.at fun o q => k it (by simp) o q, hne⟩
  item := by
    intro X hP hw hK hc i pins s σ H E I hf st hg
    subst hP hw hK
    obtain ⟨⟨old, he⟩, hit, hne⟩ := st
    obtain ⟨xs, x, hq, hx⟩ := hg
    obtain ⟨its, rv, p, hz⟩ := I.tuple hq
    have hil : i < xs.length := (List.getElem?_eq_some_iff.mp hx).1
    have hlen := rv.length
    have hel : e < s.heap.objs.size := Heap.lt_size he
    have hitl : it < s.heap.objs.size := by obtain ⟨_, q, _⟩ := hit; exact Heap.lt_size q
    have hae : e ≠ a := fun z => by
      obtain ⟨oo, h1, h2, _⟩ := p
      rw [← z, he] at h1
      cases h1
      injection h2 with q
      exact absurd q (by decide)
    have hia : it ≠ a := fun z => by
      obtain ⟨oo, h1, h2, _⟩ := p
      obtain ⟨o2, h3, h4, _⟩ := hit
      rw [← z, h3] at h1
      cases h1
      rw [h4] at h2
      injection h2 with q
      exact absurd q (by decide)
    have D := Draws.tuple (prog := X.prog) (w := X.w) (A := X.A.in1) (I.ok.hd hc) it a hia.symm its.toArray
    refine wpAny_pyNext_enum_itemD D he ⟨hit, p⟩ (by rw [List.size_toArray]; omega) hne (by simp [hne, hae]) fun u h' tk hu ho hst hT hsz hk => ?_
    obtain ⟨u2, hu2, ru⟩ := rv.get hx
    obtain rfl : u = u2 := by
      rw [List.getElem?_toArray] at hu
      exact Option.some.inj (hu.symm.trans hu2)
    refine ⟨_, rfl, wpAny_letOwnedTupleGo_enum (s := { s with heap := h', toks := tk + 1 }) ho fun h'' he' sb => ?_⟩
    have hT2 : h''.get? s.heap.objs.size = some { cls := .type "tuple", data := .seq #[.int i tk, u] } := (sb.2 _ (Nat.ne_of_gt hel)).trans hT
    have new : ObjOk X.prog X.w (upd H s.heap.objs.size (.tup [.int (i : Nat), x])) h'' s.heap.objs.size (.tup [.int (i : Nat), x]) :=
      ⟨by show 2 ≤ sizeLine; decide, [.int i tk, u], .cons ⟨_, rfl⟩ (.cons ru .nil), ⟨_, hT2, rfl, _, rfl⟩⟩
    have I1 : Inv X pins σ (upd H s.heap.objs.size (.tup [.int (i : Nat), x])) { s with heap := h'', toks := tk + 1 } :=
      I.turnedNew (ch := [e, it]) (fun b ob hb q => (sb.2 b (fun z => hb (by simp [z]))).trans (hk b ob (fun z => hb (by simp [z])) (fun z => hb (by simp [z])) q)) hf (Nat.le_refl _) new
    refine ⟨.ref s.heap.objs.size, _, I1, rfl, ⟨_, x, rfl, I.hok.fresh (Nat.le_refl _), rfl, fun ys hy => by rw [I.tuple_inj hy hq]; exact hx⟩, ⟨⟨u, ?_⟩, hst.1.at fun o q => (sb.2 it (Ne.symm hne)).trans q, hne⟩, fun b hb => ?_⟩
    · rw [show ((i + 1 : Nat) : Int) = (i : Int) + 1 by omega]
      exact he'
    · have hb' : b < s.heap.objs.size := by
        rcases (show b = e ∨ b = it by simpa using hb) with rfl | rfl
        · exact hel
        · exact hitl
      rw [upd_ne (Nat.ne_of_lt hb')]
      exact (hf b hb).1
  done := by
    intro X hP hw hK hc i pins s σ H E I hf st hg
    subst hP hw hK
    obtain ⟨⟨old, he⟩, hit, hne⟩ := st
    obtain ⟨xs, hq, hx⟩ := hg
    obtain ⟨its, rv, p, hz⟩ := I.tuple hq
    obtain ⟨f0, f1, f2, f3, f4, f5⟩ := hf it (by simp)
    have hlen := rv.length
    have hae : e ≠ a := fun z => by
      obtain ⟨oo, h1, h2, _⟩ := p
      rw [← z, he] at h1
      cases h1
      injection h2 with q
      exact absurd q (by decide)
    have hia : it ≠ a := fun z => by
      obtain ⟨oo, h1, h2, _⟩ := p
      obtain ⟨o2, h3, h4, _⟩ := hit
      rw [← z, h3] at h1
      cases h1
      rw [h4] at h2
      injection h2 with q
      exact absurd q (by decide)
    have D := Draws.tuple (prog := X.prog) (w := X.w) (A := X.A.in1) (I.ok.hd hc) it a hia.symm its.toArray
    have en : its.toArray.size = i := by rw [List.size_toArray]; omega
    refine wpAny_pyNext_enum_endD D he (by rw [en]; exact ⟨hit, p⟩) fun h' eb => ⟨rfl, I.turned (t' := s.toks) (fun b o hb q => eb b o hb q) f0 f1 f3 f4 f5⟩
  self := fun A i s Q E st h => let ⟨⟨_, he⟩, _⟩ := st; wpAny_pyIter_enum he h
theorem walk_enumT {K : PySem.W.Frag} {a : Addr} {xs : List V} : Walk (IteT K a) xs.length (fun H => SqT K H a xs) (YPair (fun i => some (.int (i : Nat))) (fun i => xs[i]?)) := by
  refine ⟨fun i _ hi q => ⟨xs, xs[i], q, by simp [hi]⟩, fun _ q => ⟨xs, q, rfl⟩, fun i H v H' _ q y => ?_⟩
  obtain ⟨T, x, h1, h2, h3, h4⟩ := y
  exact ⟨T, .int (i : Nat), x, h1, h2, h3, rfl, h4 xs q⟩
/-- enumerate of a list or of a tuple -/
def iEnS (K : PySem.W.Frag) (ta : TA) : TI := fun σ H R => ta σ H fun vs H1 => ∃ a xs, vs = [.ref a] ∧ ((SqL K H1 a xs ∧ R (Ite K a) H1) ∨ (SqT K H1 a xs ∧ R (IteT K a) H1))
theorem pi_enS {X : Cx} {e : Expr} {ta : TA} {p pos tpos : Pos} {elts : List Expr} {kk : Nat} (hg : Gl X "enumerate") (hm : X.mg "enumerate" = Option.none) (ha : PA X [e] ta) (hs : starEach [e] X.env = [(false, eval e X.env)] := by rfl) :
    PI X (.Tuple elts kk tpos) (.Call (.Name "enumerate" p) [e] [] pos) (iEnS X.K ta) := by
  refine ⟨fun pins s σ H R I h => ?_⟩
  refine Call_ (ld_blt I hg hm boot_enumerate (PyProof.Rows.callWith_type1 (thn (ha.run pos pins s σ H _ I h) fun us s1 ⟨vs, H1, I1, r1, a, xs, ex, q1⟩ => ?_) hs rfl))
  subst ex
  obtain ⟨u, rfl, ru⟩ := r1.one
  obtain rfl : u = Value.ref a := ru
  have fr : ∀ b ∈ [s1.heap.objs.size + 1, s1.heap.objs.size], FpOk X pins H1 b := fun b hb => by
    have hle : s1.heap.objs.size ≤ b := by
      rcases (show b = s1.heap.objs.size + 1 ∨ b = s1.heap.objs.size by simpa using hb) with z | z <;> omega
    exact I1.fpOk hle (I1.hok.fresh hle)
  rcases q1 with ⟨hq, q⟩ | ⟨hq, q⟩
  · obtain ⟨its, rv, p', hz⟩ := I1.list hq
    exact call_enumerate_list p'.isList fun h' he hit hsz hk => wpAny_pyIter_enum he ⟨_, _, _, _, H1, rfl, I1.kept (t' := s1.toks) hk, turn_enum a (s1.heap.objs.size + 1) s1.heap.objs.size, ⟨⟨.none, he⟩, hit, Nat.succ_ne_self _⟩, fr, q⟩
  · obtain ⟨its, rv, p', hz⟩ := I1.tuple hq
    exact call_enumT p' fun h' he hit hsz hk => wpAny_pyIter_enum he ⟨_, _, _, _, H1, rfl, I1.kept (t' := s1.toks) hk, turn_enumT a (s1.heap.objs.size + 1) s1.heap.objs.size, ⟨⟨.none, he⟩, hit, Nat.succ_ne_self _⟩, fr, q⟩
end Tw

set_option Elab.async false
set_option linter.all false
set_option maxRecDepth 100000
set_option maxHeartbeats 2000000
/-! own rules: min(xs, key=lambda x: ys[x]), ys a name of the def -/
namespace Cl
open PySem PySem.Spec PyProof.Rows L2 LamX
section
variable {prog : Program} {w : World} {A : Around} {E : Value → Shared → Prop} {s : Shared}
/-- what the lambda's scope must say -/
structure LSc (scope : Scope) (x y : Str) : Prop where
  kind : scope.kind = .function
  co : scope.isCoroutine = false
  gen : scope.isGenerator = false
  nocell : ∀ z ∈ scope.names, z.2 ≠ .cell
  px : scope.names.lookup x = some .local
  fy : scope.names.lookup y = some .free
/-- lambda x: y[x], called with an int -/
theorem lam_ix {f l c' ck : Addr} {q x y : Str} {params : Arguments} {p1 p2 p3 : Pos} {scope : Scope} {cl : List (Str × Addr)} {pm ctv u : Value} {vs : List Value} {i : Int} {t : Tok} {Q : Value → Shared → Prop}
    (S : LSc scope x y) (hd : A.depth < recursionLimit) (hf : s.heap.get? f = some (PySem.W.kla_obj "<lambda>" q params (.Subscript (.Name y p1) (.Name x p2) p3) scope cl pm c' ctv))
    (hbind : ∀ v : Value, bindArgs (PySem.W.kla_fn "<lambda>" q params (.Subscript (.Name y p1) (.Name x p2) p3) scope cl pm (.ref c') ctv) ⟨[v], []⟩ = pure [(x, v)])
    (hcode : ∃ (oc : Obj) (us : Array Value) (tk : Tok), s.heap.get? c' = some oc ∧ oc.data = .fields us ∧ us[1]? = some (.str q tk)) (hlim : s.heap.NoLimit)
    (hck : cl.lookup y = some ck) (hcell : s.heap.IsCell ck (some (.ref l))) (hl : s.heap.IsList l vs.toArray) (h0 : 0 ≤ i) (h1 : i < 2 ^ 63) (hi : vs[i.toNat]? = some u)
    (hdx : (x == ("__debug__" : Str)) = false) (hdy : (y == ("__debug__" : Str)) = false) (hcy : (y == ("__classdict__" : Str)) = false)
    (h : ∀ h' tk, s.toks ≤ tk → (∀ b o, s.heap.get? b = some o → h'.get? b = some o) → Q u { s with heap := h', toks := tk }) : wpAny (model prog w) A (call (.ref f) [.int i t]) Q E s := by
  obtain ⟨oc, us, tq, hoc, hdc, hvc⟩ := hcode
  refine wpAny_call (PySem.W.kla_callFunE hd hf rfl S.co S.gen rfl ⟨c', oc, us, tq, rfl, hoc, hdc, hvc⟩ ?_)
  rw [hbind]
  refine wpAny_pure (wpAny_newFunctionEnv S.nocell (fun z hz => by rw [List.mem_singleton.mp hz]; exact S.px) (fun h₁ hns hsb => ⟨hlim.fresh _ hsb, ?_⟩) S.kind)
  have kp : ∀ b o, s.heap.get? b = some o → h₁.get? b = some o := fun b o e => hsb.extBut b o (Nat.ne_of_lt (Heap.lt_size e)) (Heap.get?_push_of_some _ e)
  refine PySem.W.kla_codeExpr ?_
  refine wpAny_Subscript_Name list_getitem_lookup ?_
  refine wpAny_Name (wpAny_loadName_free S.kind S.fy hck (hcell.keeps kp) ?_ hcy) hdy
  refine wpAny_Name (wpAny_loadName_local S.kind S.px hns (v := .int i t) ?_ ?_) hdx
  · simp [List.lookup]
  · have hl' : h₁.IsList l vs.toArray := hl.at fun o e => kp _ _ e
    refine ⟨hl'.typeIs, wpAny_getItem_list hl' h0 h1 (by simpa using hi) ?_⟩
    exact h h₁ _ (by show s.toks ≤ s.toks + _; omega) kp
/-- what a lambda x: y[x] is, and what it reads -/
structure LamAt (h : Heap) (f : Addr) (x y : Str) (q : Str) (params : Arguments) (p1 p2 p3 : Pos) (scope : Scope) (cl : List (Str × Addr)) (pm ctv : Value) (c' ck l : Addr) (us : List Value) : Prop where
  fn : h.get? f = some (PySem.W.kla_obj "<lambda>" q params (.Subscript (.Name y p1) (.Name x p2) p3) scope cl pm c' ctv)
  code : ∃ (oc : Obj) (us : Array Value) (tk : Tok), h.get? c' = some oc ∧ oc.data = .fields us ∧ us[1]? = some (.str q tk)
  lim : h.NoLimit
  hck : cl.lookup y = some ck
  cell : h.IsCell ck (some (.ref l))
  lst : h.IsList l us.toArray
theorem LamAt.keeps {h h' : Heap} {f : Addr} {x y : Str} {q : Str} {params : Arguments} {p1 p2 p3 : Pos} {scope : Scope} {cl : List (Str × Addr)} {pm ctv : Value} {c' ck l : Addr} {us : List Value}
    (L : LamAt h f x y q params p1 p2 p3 scope cl pm ctv c' ck l us) (k : ∀ b o, h.get? b = some o → h'.get? b = some o) : LamAt h' f x y q params p1 p2 p3 scope cl pm ctv c' ck l us :=
  ⟨k _ _ L.fn, let ⟨oc, us, tk, a, b, c⟩ := L.code; ⟨oc, us, tk, k _ _ a, b, c⟩, L.lim.keeps k, L.hck, L.cell.keeps k, L.lst.at fun o e => k _ _ e⟩
theorem min_lam {f a l c' ck : Addr} {q x y : Str} {params : Arguments} {p1 p2 p3 : Pos} {scope : Scope} {cl : List (Str × Addr)} {pm ctv : Value} {cs us : List Value} {ns : Nat → Int} {kf : Nat → Int} {Q : Value → Shared → Prop}
    (hh : A.handled = none) (S : LSc scope x y) (hd : A.depth < recursionLimit) (L : LamAt s.heap f x y q params p1 p2 p3 scope cl pm ctv c' ck l us)
    (hbind : ∀ v : Value, bindArgs (PySem.W.kla_fn "<lambda>" q params (.Subscript (.Name y p1) (.Name x p2) p3) scope cl pm (.ref c') ctv) ⟨[v], []⟩ = pure [(x, v)])
    (hdx : (x == ("__debug__" : Str)) = false) (hdy : (y == ("__debug__" : Str)) = false) (hcy : (y == ("__classdict__" : Str)) = false)
    (ht : s.heap.IsTuple a cs.toArray) (hc : ∀ i, i < cs.length → ∃ t, cs[i]? = some (.int (ns i) t)) (hne : 0 < cs.length)
    (hk : ∀ i, i < cs.length → 0 ≤ ns i ∧ ns i < 2 ^ 63 ∧ ∃ t, us[(ns i).toNat]? = some (.int (kf i) t))
    (h : ∀ v h' tk, cs[argBest (fun i j => decide (kf i < kf j)) (cs.length - 1)]? = some v → (∀ b o, s.heap.get? b = some o → h'.get? b = some o) → Q v { s with heap := h', toks := tk }) :
    wpAny (model prog w) A (call (.builtin "min") [.ref a] [(Str.ofString "key", .ref f)]) Q E s := by
  have hd1 : A.in1.depth < recursionLimit := hd
  refine call_min_walkK (PySem.W.iter_tupleW (A := A.in1) hh ht fun s₂ e2 W st hfp hfr kp2 => ?_)
  have sz2 : s.heap.objs.size < s₂.heap.objs.size := hfp _ List.mem_cons_self
  have old : ∀ {s' : Shared}, Moved [s₂.heap.objs.size, s.heap.objs.size] (fun a b => b = a) s₂ s' → ∀ b o, s.heap.get? b = some o → s'.heap.get? b = some o := fun {s'} m b o e => by
    have lt := Heap.lt_size e
    refine m.heap b o (fun hm => ?_) (kp2 b o e)
    rcases List.mem_cons.mp hm with z | hm
    · rw [z] at lt
      exact Nat.lt_irrefl _ (Nat.lt_trans lt sz2)
    · rw [List.mem_singleton.mp hm] at lt
      exact Nat.lt_irrefl _ lt
  have szc : cs.toArray.size = cs.length := by simp
  refine ⟨s.heap.objs.size, [s.heap.objs.size, a], [s.heap.objs.size], (fun a b => b = a), cs.toArray.size, _, _, fun s' => Moved [s₂.heap.objs.size, s.heap.objs.size] (fun a b => b = a) s₂ s', fun i k _ => ∃ t, k = .int (kf i) t, fun i j => decide (kf i < kf j), rfl, W, st, hfp, by rw [szc]; exact hne, ⟨?_, ?_, ?_, ?_⟩, Moved.refl fun _ => rfl, ?_⟩
  · exact fun s1 s' J m => J.trans (fun _ _ _ h1 h2 => h2.trans h1) m
  · exact fun i k s1 s' v _ => v
  · intro i v s1 o Q' E' hi hP J stI hS cont
    rw [szc] at hi
    obtain ⟨t, ec⟩ := hc i hi
    have ev : v = .int (ns i) t := by
      have hP' : cs[i]? = some v := by simpa using hP
      rw [ec] at hP'
      exact (Option.some.inj hP').symm
    subst ev
    obtain ⟨h0, h1, tk, eu⟩ := hk i hi
    have L1 := L.keeps (old J)
    refine lam_ix S hd1 L1.fn hbind L1.code L1.lim L1.hck L1.cell L1.lst h0 h1 eu hdx hdy hcy fun h' tk' hle kp => ?_
    exact cont _ _ (J.then_heap hle fun b o _ e => kp b o e) (W.frame _ s1 h' tk' stI hle fun b _ o e => kp b o e) (kp _ _ hS) ⟨_, rfl⟩ fun j k' z => z
  · intro i j ki kj s1 Q' E' J vi vj q
    exact CmpOf.ints_lt (prog := prog) (w := w) (A := A.in1) (P := fun i v => ∃ t, v = .int (kf i) t) kf (fun i v h => h) i j ki kj s1 Q' E' vi vj q
  · intro v s' hP J
    rw [szc] at hP
    have hP' : cs[argBest (fun i j => decide (kf i < kf j)) (cs.length - 1)]? = some v := by simpa using hP
    have e : s' = { s with heap := s'.heap, toks := s'.toks } := by
      obtain ⟨hp, g, d, tk, os⟩ := s'
      subst e2
      have h1 : g = s.gens := J.gens
      have h2 : d = s.drawn := J.drawn
      have h3 : os = s.os := J.os
      subst h1 h2 h3
      rfl
    rw [e]
    exact h v s'.heap s'.toks hP' (old J)
end
/-- the first of the least -/
def FirstLeast (kf : Nat → Int) (n j : Nat) : Prop := j < n ∧ (∀ i, i < n → kf j ≤ kf i) ∧ ∀ i, i < j → kf j < kf i
theorem best_is (kf : Nat → Int) : ∀ n, FirstLeast kf (n + 1) (argBest (fun i j => decide (kf i < kf j)) n)
  | 0 => ⟨Nat.zero_lt_one, fun i h => by rw [Nat.lt_one_iff.mp h]; exact Int.le_refl _, fun i h => nomatch h⟩
  | n + 1 => by
    obtain ⟨a, b, c⟩ := best_is kf n
    show FirstLeast kf (n + 2) (if decide (kf (n + 1) < kf (argBest (fun i j => decide (kf i < kf j)) n)) = true then n + 1 else argBest (fun i j => decide (kf i < kf j)) n)
    by_cases h : kf (n + 1) < kf (argBest (fun i j => decide (kf i < kf j)) n)
    · rw [if_pos (decide_eq_true h)]
      refine ⟨by omega, fun i hi => ?_, fun i hi => ?_⟩
      · by_cases e : i = n + 1
        · rw [e]
          exact Int.le_refl _
        · have := b i (by omega)
          omega
      · have := b i (by omega)
        omega
    · rw [if_neg (fun z => h (of_decide_eq_true z))]
      refine ⟨by omega, fun i hi => ?_, c⟩
      by_cases e : i = n + 1
      · rw [e]
        omega
      · exact b i (by omega)
theorem first_one {kf : Nat → Int} {n i j : Nat} (a : FirstLeast kf n i) (b : FirstLeast kf n j) : i = j := by
  rcases Nat.lt_trichotomy i j with h | h | h
  · have h1 := b.2.2 i h
    have h2 := a.2.1 j b.1
    omega
  · exact h
  · have h1 := a.2.2 j h
    have h2 := b.2.1 i a.1
    omega
/-- the item of ns whose key in ks is the least, the first such one -/
def LeastAt (ks ns : List Int) (m : Int) : Prop := ∃ j, FirstLeast (fun i => ks.getD (ns.getD i 0).toNat 0) ns.length j ∧ m = ns.getD j 0
theorem _root_.LamX.ExtN.rd {H H' : Hp} (e : ExtN H H') {a : Addr} {u : HO} (n : ∀ ps, u ≠ .tbl ps) (h : Rd H a u) : Rd H' a u := by
  rcases h with h | ⟨o, h⟩
  · exact .inl (e _ _ h n)
  · exact .inr ⟨o, e _ _ h fun ps z => nomatch z⟩
theorem _root_.LamX.ExtN.sqL {K : PySem.W.Frag} {H H' : Hp} (e : ExtN H H') {a : Addr} {xs : List V} (h : SqL K H a xs) : SqL K H' a xs := h.elim (fun h => .inl (e.rd (fun ps z => nomatch z) h)) .inr
theorem _root_.LamX.ExtN.sqT {K : PySem.W.Frag} {H H' : Hp} (e : ExtN H H') {a : Addr} {xs : List V} (h : SqT K H a xs) : SqT K H' a xs := h.elim (fun h => .inl (e.rd (fun ps z => nomatch z) h)) .inr
section
variable {X : Cx}
def tMinLam (K : PySem.W.Frag) (T : List (Addr × Str)) (j : Nat) (te : TE) : TE := fun σ H Q => te σ H fun v H1 => ∃ (a l : Addr) (ns ks : List Int), v = .ref a ∧ SqT K H1 a (ns.map V.int) ∧ σ[j]? = some (some (.ref l)) ∧ SqL K H1 l (ks.map V.int) ∧ 0 < ns.length ∧ (∀ n ∈ ns, 0 ≤ n ∧ n < ks.length) ∧
  Tabs T H1 ∧ ∀ (m : Int) (H2 : Hp), ExtN H1 H2 → Tabs T H2 → LeastAt ks ns m → Q (.int m) H2
/-- min(e, key=lambda x: y[x]), y a name of the def that it shares with the lambda -/
theorem pe_minlam {T : List (Addr × Str)} {c P : Addr} {p p1 p2 p3 lpos kpos pos : Pos} {e : Expr} {te : TE} {x y : Str} {j : Nat} {params : Arguments} {scope : Scope}
    (hg : Gl X "min") (hm : X.mg "min" = none) (he : PE X e te) (hd : X.A.depth < recursionLimit) (hh : X.A.handled = none) (TB : TabB X.base X.mg c P) (hcode : X.env.code = .ref c) (hmT : (P, X.env.qual ++ "<lambda>") ∈ T)
    (hu : ∀ q ∈ T, q.1 = P → q.2 = X.env.qual ++ "<lambda>") (S : LSc scope x y) (hfy : X.env.scope.names.lookup y = some .cell) (hfr : ∀ z ∈ scope.names, z.2 = .free → z.1 = y) (hN : X.N[j]? = some y) (hdef : defaultsOf params X.env = ([], []))
    (hbind : ∀ (q : Str) (cl : List (Str × Addr)) (pm cv ctv v : Value), bindArgs (PySem.W.kla_fn "<lambda>" q params (.Subscript (.Name y p1) (.Name x p2) p3) scope cl pm cv ctv) ⟨[v], []⟩ = pure [(x, v)])
    (hs : starEach [e] X.env = (false, eval e X.env) :: starEach [] X.env := by rfl)
    (hdx : (x == ("__debug__" : Str)) = false := by decide) (hdy : (y == ("__debug__" : Str)) = false := by decide) (hcy : (y == ("__classdict__" : Str)) = false := by decide) :
    PE X (.Call (.Name "min" p) [e] [⟨some "key", .Lambda params (.Subscript (.Name y p1) (.Name x p2) p3) scope lpos, kpos⟩] pos) (tMinLam X.K T j te) := by
  refine ⟨fun pins s σ H Q I h => ?_⟩
  have hfree : ∀ z ∈ scope.names, z.2 = .free → ∃ c, X.env.cells.lookup z.1 = some c := fun z hz e => I.ok.has _ (.inl (by rw [hfr z hz e]; exact hfy))
  refine wpAny_Call_Name_kw (ld_blt I hg hm (u := .builtin "min") (by decide +kernel) ?_)
  refine PyProof.Rows.callWith_kw ?_ (by rw [hs]; rfl) (by rw [hs]; rfl) (by rfl) (by rfl)
  rw [hs]
  show wpAny _ _ (spliced ((false, eval e X.env) :: backTo pos (starEach [] X.env))) _ _ s
  refine Calls.spliced_cons (thn (he.run pins s σ H _ I h) fun u s1 ⟨v, H1, I1, r1, a, l, ns, ks, ev, ht, hσ, hl, hne, hin, hT, q⟩ => Calls.spliced_nil ?_)
  subst ev
  obtain rfl : u = Value.ref a := r1
  show wpAny _ _ (evalAll ((do let v ← eval (.Lambda params (.Subscript (.Name y p1) (.Name x p2) p3) scope lpos) X.env; standAt pos; pure v) :: [])) _ _ s1
  refine wpAny_evalAll_cons (wpAny_bind (lam_make2 I1 TB hcode hmT hu hT hdef hfree fun f c' pm ctv H2 s2 I2 eN T2 hf hfn hff hco => wpAny_bind (wpAny_standAt (wpAny_pure (wpAny_evalAll_nil ?_)))))
  show wpAny _ _ (call (.builtin "min") [.ref a] [(Str.ofString "key", .ref f)]) _ _ s2
  obtain ⟨cs, rc, tc, _⟩ := I2.tuple (eN.sqT ht)
  obtain ⟨us, ru, pl, hz2⟩ := I2.list (eN.sqL hl)
  obtain ⟨m, _, look⟩ := I2.loc
  obtain ⟨u0, r0, lk⟩ := look j y _ hN hσ (.inr (.inl hfy))
  obtain rfl : u0 = Value.ref l := r0
  have cellAt : ∃ ck, X.env.cells.lookup y = some ck ∧ s2.heap.IsCell ck (some (.ref l)) := by
    rcases lk with ⟨k, _⟩ | ⟨_, ck, e1, e2⟩
    · rw [show X.env.kindOf y = some .cell from hfy] at k
      cases k
    · exact ⟨ck, e1, e2⟩
  obtain ⟨ck, eck, hcell⟩ := cellAt
  obtain ⟨⟨oc, vs, tk, o1, o2, o3⟩, _, _⟩ := I2.hok c' _ hco
  have lc : cs.length = ns.length := by rw [← rc.length, List.length_map]
  have lu : us.length = ks.length := by rw [← ru.length, List.length_map]
  have nsAt : ∀ i, i < ns.length → ∃ t, cs[i]? = some (.int (ns.getD i 0) t) := fun i hi => by
    obtain ⟨z, ez, rz⟩ := rc.get (i := i) (x := V.int (ns.getD i 0)) (by rw [List.getElem?_map, List.getD_eq_getElem?_getD, List.getElem?_eq_getElem hi]; rfl)
    obtain ⟨t, rfl⟩ := rz
    exact ⟨t, ez⟩
  refine min_lam (ns := fun i => ns.getD i 0) (kf := fun i => ks.getD (ns.getD i 0).toNat 0) hh S hd ⟨hf, ⟨oc, vs, tk, o1, o2, o3⟩, I2.nolimit, NdefX.clo_has hfree (PySem.mem_of_lookup S.fy) eck, hcell, pl.isList⟩ (fun v => hbind _ _ _ _ _ v) hdx hdy hcy tc (fun i hi => nsAt i (by omega)) (by omega)
    (fun i hi => ?_) fun v h' tk2 hv kp => ?_
  · have hi' : i < ns.length := by omega
    have hmem : ns.getD i 0 ∈ ns := by rw [List.getD_eq_getElem?_getD, List.getElem?_eq_getElem hi']; exact List.getElem_mem hi'
    obtain ⟨b0, b1⟩ := hin _ hmem
    have hs63 := line63
    rw [List.length_map] at hz2
    have hk' : (ns.getD i 0).toNat < ks.length := by omega
    obtain ⟨z, ez, rz⟩ := ru.get (i := (ns.getD i 0).toNat) (x := V.int (ks.getD (ns.getD i 0).toNat 0)) (by rw [List.getElem?_map, List.getD_eq_getElem?_getD (l := ks), List.getElem?_eq_getElem hk']; rfl)
    obtain ⟨t, rfl⟩ := rz
    exact ⟨b0, by omega, t, ez⟩
  · obtain ⟨n, en⟩ : ∃ n, ns.length = n + 1 := ⟨ns.length - 1, by omega⟩
    have fl := best_is (fun i => ks.getD (ns.getD i 0).toNat 0) n
    rw [← en] at fl
    rw [lc, show ns.length - 1 = n by omega] at hv
    obtain ⟨t, et⟩ := nsAt _ fl.1
    rw [et] at hv
    cases hv
    exact ⟨.int _, H2, I2.kept kp, ⟨t, rfl⟩, q _ H2 eN T2 ⟨_, fl, rfl⟩⟩
end
end Cl

set_option Elab.async false
set_option linter.all false
set_option maxRecDepth 100000
set_option maxHeartbeats 2000000
/-! own rule: list(o), o an instance with an __iter__ over its tuple and a __len__ -/
namespace Tw
open PySem PySem.Spec PyProof.Rows L2
def rListO (K : PySem.W.Frag) (C : Addr) (fld : Str) (sp : Sp) (E : XK) : List V → Hp → VK → Prop := fun xs H Q => ∃ (a dx : Addr) (fs : List (Str × V)) (t : Addr) (zs : List V), xs = [.ref a] ∧ H a = some (.ins C dx fs) ∧ fs.lookup fld = some (.ref t) ∧ SqT K H t zs ∧ zs.length ≤ 900 ∧
  sp [.ref a] H (fun v H' => ∃ n : Nat, v = .int n ∧ n < 1000 ∧ H' = H) E ∧ ∀ q, H q = none → Q (.ref q) (upd H q (.lst zs))
theorem ty_ne {a b : String} (h : Value.type a = Value.type b) (n : decide (a = b) = false) : False := by
  injection h with h
  exact of_decide_eq_false n h
theorem if_yes {α : Type} {M : Model} {A : Around} {E : Value → Shared → Prop} {s : Shared} {c : Bool} {a b : Sem α} {Q : α → Shared → Prop} (hc : c = true) (h : wpAny M A a Q E s) : wpAny M A (if c = true then a else b) Q E s := by
  rw [hc, if_pos rfl]
  exact h
section
variable {X : Cx} {k : Nat} {f : Addr} {fd : FuncData} {ps : List Str} {sp : Sp} {A1 : Around} {pins : List (Addr × Obj)} {σ : L2.St} {H : Hp} {s : Shared} {Q : VK}
/-- a def that raises nothing, called within a built-in -/
theorem run_sub0 {us : List Value} {vs : List V} {R : Value → Shared → Prop} (F : FnOk X.prog X.w X.K X.mg X.base CX0 k f fd ps sp) (sb : Sub X k A1) (hb : L2.Binds X.K fd ps []) (I : Inv X pins σ H s) (r : Vals vs us) (h : sp vs H Q E0) :
    wpAny (model X.prog X.w) A1 (call (.ref f) us) (EP X pins σ Q) R s := by
  have hl : us.length = ps.length := by rw [← r.length]; exact F.len _ _ _ _ h
  have hb1 : BindsTo s fd ⟨us, []⟩ (ps.zip us) := by
    have z := hb s us I.kIn (by rw [List.append_nil]; exact hl)
    rw [List.append_nil] at z
    exact z
  refine wpAny_call (codeAny_mono (F.run A1 X.stack s H ⟨us, []⟩ us vs Q E0 sb.room (Sub.env0 sb I) hb1 r h) fun z s' hq => ?_)
  match z, hq with
  | .error e, hq => exact False.elim hq
  | .ok (.ret u), hq => exact I.after hq
  | .ok .next, hq => exact False.elim hq
  | .ok .brk, hq => exact False.elim hq
  | .ok .cont, hq => exact False.elim hq
end
section
variable {X : Cx} {kI k : Nat} {fi fl C : Addr} {fdI fdL : FuncData} {psL : List Str} {spL : Sp} {fld : Str}
theorem call_listO (hdI : Dn X.K C "__iter__" fi) (FI : FnIt X.prog X.w X.K X.mg X.base k fi fdI ["self"] (spIter X.K C fld)) (bI : L2.Binds X.K fdI ["self"] [])
    (hdL : Dn X.K C "__len__" fl) (FL : FnOk X.prog X.w X.K X.mg X.base CX0 k fl fdL psL spL) (bL : L2.Binds X.K fdL psL []) (hr : Room (k + 3) X.A) : CallR X (.type "list") (rListO X.K C fld spL E0) := by
  intro pins s σ H xs us Q I rv h
  obtain ⟨a, dx, fs, t, zs, rfl, ha, hf, ht, hz, hlen, q⟩ := h
  obtain ⟨u, rfl, ru⟩ := rv.one
  cases ru
  have sb1 : Sub X (k + 1) X.A.in1.in1 := Sub.in1 (Sub.in1 (⟨hr, rfl⟩ : Sub X (k + 3) X.A))
  have sb : Sub X k X.A.in1.in1 := sb1.mono (Nat.le_succ k)
  refine callType_codes (Q₁ := fun obj s₁ => obj = .ref s.heap.objs.size ∧ s₁ = { s with heap := s.heap.push { cls := .type "list", data := .seq #[] } }) PySem.F.called_list (PySem.F.typeCall_list_1 _) PySem.F.entry_list_init
    (code_list_new _ ⟨rfl, rfl⟩) fun obj s₁ h₁ => ?_
  obtain ⟨rfl, rfl⟩ := h₁
  have hS : (s.heap.push { cls := .type "list", data := .seq #[] }).get? s.heap.objs.size = some { cls := .type "list", data := .seq #[] } := Heap.get?_push_size _ rfl
  refine ⟨⟨_, hS, rfl⟩, PySem.F.args_list_init_2 _ _, ?_⟩
  have nS : H s.heap.objs.size = none := I.hok.fresh (Nat.le_refl _)
  have fS : FpOk X pins H s.heap.objs.size := I.fpOk (Nat.le_refl _) nS
  have I1 : Inv X pins σ H { s with heap := s.heap.push { cls := .type "list", data := .seq #[] } } := I.kept (t' := s.toks) fun b u e => Heap.get?_push_of_some _ e
  show wpAny _ _ (do let old ← Builtin.List.listItems (.ref s.heap.objs.size); Builtin.List.listUpdate (.ref s.heap.objs.size) (fun _ => #[]); letGo old.toList.reverse; Builtin.List.listExtendWith (.ref s.heap.objs.size) (.ref a) .none) _ _ _
  refine wpAny_bind ?_
  unfold Builtin.List.listItems
  refine wpAny_bind (wpAny_seqItems hS rfl (wpAny_pure ?_))
  show wpAny _ _ (updateSeq s.heap.objs.size (fun _ => #[]) >>= fun _ => letGo (#[] : Array Value).toList.reverse >>= fun _ => Builtin.List.listExtendWith (.ref s.heap.objs.size) (.ref a) .none) _ _ _
  refine wpAny_bind (wpAny_updateSeq hS rfl ?_)
  have hS2 := Heap.get?_update_self (h := s.heap.push { cls := .type "list", data := .seq #[] }) (f := Obj.mapSeq fun _ => #[]) hS rfl
  have I2 := I1.turnedL (h' := (s.heap.push { cls := .type "list", data := .seq #[] }).update s.heap.objs.size (Obj.mapSeq fun _ => #[])) (t' := s.toks) (ch := [s.heap.objs.size]) (fun b o hb e => (Heap.get?_update_other _ _ (fun z => hb (by simp [z]))).trans e) (fun b hb => by rw [List.mem_singleton.mp hb]; exact fS)
  refine wpAny_bind (wpAny_letGo ?_)
  generalize hSa : s.heap.objs.size = S at *
  generalize hh2 : (s.heap.push { cls := .type "list", data := .seq #[] }).update S (Obj.mapSeq fun _ => #[]) = h2 at *
  have szS : S < h2.objs.size := Heap.lt_size hS2
  obtain ⟨mA, O, rr, _, _, _⟩ := ins_get I2.hok ha
  obtain ⟨od, J, hl⟩ := O.look
  obtain ⟨m0, hF⟩ := I2.fr
  have hne : S ≠ a := fun z => by rw [← z] at ha; rw [nS] at ha; cases ha
  have h1 : Builtin.List.listSameRef (.ref S) (.ref a) = false := by simp [Builtin.List.listSameRef, hne]
  unfold Builtin.List.listExtendWith
  refine wpAny_bind (J.type.here ?_)
  have n2 : (Value.ref C == Value.type "list") = false := rfl
  have n3 : (Value.ref C == Value.type "tuple") = false := rfl
  simp only [h1, n2, n3, Bool.or_false, Bool.false_eq_true, if_false]
  have I2p := I2.pinned (fp := [S]) (fun b hb => by rw [List.mem_singleton.mp hb]; exact fS) (fun b hb => by rw [List.mem_singleton.mp hb]; exact ⟨_, hS2, fun v z => nomatch z⟩)
  refine wpAny_bind (PySem.W.owit_iter hF I2.ok.mod.kin J hdI.at_ hdI.fn (thn (run_iter FI sb bI I2p ha hf ht) fun r s3 ⟨it, er, hn, h0, I3⟩ => ?_))
  subst er
  have e2 : upd H it (ItT t it 0) it = some (ItT t it 0) := upd_same
  have g : s3.heap.get? it = some (itTup t 0) := (I3.hok it _ e2).1
  have hS3 := (I3.pin (S, _) (List.mem_append_right _ (List.mem_append_right _ (mem_pinsAt (List.mem_singleton.mpr rfl) hS2)))).1
  have hTy : s3.TypeIs (.ref it) "tuple_iterator" := ⟨_, g, rfl⟩
  have fIt := ItX.inv_fp I3 e2 (Nat.le_trans I2.sz hn)
  have I4 := ItX.inv_drop I3 e2
  rw [ItX.dropH_upd h0] at I4 fIt
  unfold PySem.W.OwitIt
  refine wpAny_specialOf (name := Str.ofString "__next__") hTy PySem.F.slot_tuple_iterator_next.lookup ?_
  have I5 := I4.pinned (fp := [it]) (fun b hb => by rw [List.mem_singleton.mp hb]; exact fIt) (fun b hb => by rw [List.mem_singleton.mp hb]; exact ⟨_, g, fun v z => nomatch z⟩)
  show wpAny _ X.A.in1.in1 (holding [.ref it] (Builtin.List.listLengthHint (.ref a)) >>= _) _ _ s3
  obtain ⟨mA5, O5, rr5, _, _, _⟩ := ins_get I5.hok ha
  obtain ⟨od5, J5, hl5⟩ := O5.look
  obtain ⟨m5, hF5⟩ := I5.fr
  refine wpAny_bind (wpAny_holding ?_)
  have lenOk : ∀ {R : Value → Shared → Prop}, wpAny (model X.prog X.w) X.A.in1.in1 (call (.builtin "len") [.ref a]) (fun r s' => ∃ (n : Nat) (tk : Tok), r = .int n tk ∧ n < 1000 ∧ Inv X (pins ++ pinsAt [S] h2 ++ pinsAt [it] s3.heap) σ H s') R s3 := by
    intro R
    refine PySem.W.len_K hF5 I5.ok.mod.kin J5 hdL.at_ hdL.fn (thn (run_sub0 FL (Sub.in1 (Sub.mono sb1 (Nat.le_refl _))) bL I5 (.cons (relR a) .nil) hlen) fun r s' ⟨z, H', I', rz, n, ez, hn, eH⟩ => ?_)
    subst ez
    rw [eH] at I'
    obtain ⟨tk, rfl⟩ := rz
    exact ⟨⟨by omega, by omega⟩, n, _, rfl, hn, I'.tok _⟩
  unfold Builtin.List.listLengthHint
  refine wpAny_bind (wpAny_bind (J5.type.here ((PySem.W.looks_findIn I5.kIn hdL.at_).here ?_)))
  refine PySem.W.KFB.if_not rfl ?_
  refine if_yes rfl ?_
  refine wpAny_bind (wpAny_rule ?_)
  refine wpAny_bind (wpAny_attempt (thn lenOk fun r s6 ⟨n, tk, er, hn6, I6⟩ => ?_))
  subst er
  refine wpAny_bind (wpAny_of_eq (a := some ((n : Nat) : Int)) (by rfl) ?_)
  refine PySem.W.KFB.if_not (by unfold Builtin.List.listTooLong; exact decide_eq_false (by rw [sizeLine_eq, Int.toNat_natCast]; omega)) ?_
  refine wpAny_pure ?_
  -- the loop
  have I7 : Inv X pins σ H s6 := I6.unpinned.unpinned
  have hS6 := (I6.pin (S, _) (List.mem_append_right _ (List.mem_append_left _ (List.mem_append_right _ (mem_pinsAt (List.mem_singleton.mpr rfl) hS2))))).1
  have g6 := (I6.pin (it, _) (List.mem_append_right _ (List.mem_append_right _ (mem_pinsAt (List.mem_singleton.mpr rfl) g)))).1
  have fIt2 : FpOk X pins H it := ⟨fIt.1, fIt.2.1, fIt.2.2.1, fIt.2.2.2.1, fIt.2.2.2.2.1, fun p hp => fIt.2.2.2.2.2 p ((List.mem_append.mp hp).elim (fun z => List.mem_append_left _ z) fun z => List.mem_append_right _ (List.mem_append_left _ z))⟩
  have Sne' : S ≠ it := fun z => by
    rw [z, g6] at hS6
    exact ty_ne (show Value.type "tuple_iterator" = Value.type "list" from congrArg Obj.cls (Option.some.inj hS6)) (by decide +kernel)
  have loop : ∀ (s7 : Shared) (c : Nat), Inv X pins σ H s7 → s7.heap.get? S = some { cls := .type "list", data := .seq #[] c } → s7.heap.get? it = some (itTup t 0) →
      codeAny (model X.prog X.w) X.A.in1 (.builtin "list.extend.loop" ⟨[.ref S, .ref it, .none], []⟩) (wants (fun r s₂ => r = .none ∧ EP X pins σ Q (.ref S) s₂) X.xe) s7 := by
    intro s7 c J7 hS7 g7
    obtain ⟨its, rz, pl, hz2⟩ := J7.tuple ht
    have tne : t ≠ it := fun z => by
      obtain ⟨o, e1, e2, _⟩ := pl
      rw [z, g7] at e1
      rw [← Option.some.inj e1] at e2
      exact ty_ne (show Value.type "tuple_iterator" = Value.type "tuple" from e2) (by decide +kernel)
    have Sne : S ≠ it := fun z => by
      rw [z, g7] at hS7
      exact ty_ne (show Value.type "tuple_iterator" = Value.type "list" from congrArg Obj.cls (Option.some.inj hS7)) (by decide +kernel)
    have St : S ≠ t := fun z => by
      obtain ⟨o, e1, e2, _⟩ := pl
      rw [← z, hS7] at e1
      rw [← Option.some.inj e1] at e2
      exact ty_ne (show Value.type "list" = Value.type "tuple" from e2) (by decide +kernel)
    have li : its.length = zs.length := rz.length.symm
    have W := (PySem.Walks.tuple (prog := X.prog) (w := X.w) (A := X.A.in1.in1) sb1.room.hd it t tne its.toArray).toS
    refine PySem.codeAny_extend_loopS (A := X.A.in1) W (by rw [List.size_toArray, sizeLine_eq]; omega) S (fun z => ?_) .none _ 0 s7 #[] c rfl (Nat.zero_le _) ⟨⟨_, g7, rfl, rfl⟩, pl⟩ hS7 (PySem.ItemsOf.nil _) fun s8 acc c8 m hS8 hit => ?_
    · rcases List.mem_cons.mp z with z | z
      · exact Sne z
      · exact St (List.mem_singleton.mp z)
    have eacc : acc = its.toArray := by
      refine Array.ext_getElem? fun j => ?_
      by_cases hj : j < acc.size
      · rw [Array.getElem?_eq_getElem hj]
        exact (hit.2 j _ (Array.getElem?_eq_getElem hj)).symm
      · rw [Array.getElem?_eq_none (by omega), Array.getElem?_eq_none (by rw [← hit.1]; omega)]
    subst eacc
    have J8 := J7.turnedL (h' := s8.heap) (t' := s8.toks) (ch := [S, it]) (fun b o hb e => m.heap b o hb e) (fun b hb => by
      rcases List.mem_cons.mp hb with z | z
      · rw [z]; exact fS
      · rw [List.mem_singleton.mp z]; exact fIt2)
    have J9 := J8.take (h' := s8.heap) (t' := s8.toks) (it := S) (o := .lst zs) (fun _ _ _ e => e) fS ⟨by rw [sizeLine_eq]; omega, its, c8, rz, hS8⟩
    have e8 : s8 = { s7 with heap := s8.heap, toks := s8.toks } := Moved.eq_with m
    rw [e8]
    exact ⟨rfl, .ref S, _, J9, rfl, q S nS⟩
  refine wpAny_ite_split (fun _ => ?_) (fun _ => wpAny_pure ⟨plainId_quiet PySem.F.plain_extend_loop _, loop s6 _ I7 hS6 g6⟩)
  refine wpAny_bind (wpAny_rule ?_)
  refine wpAny_bind ?_
  show wpAny _ _ (updateSeq S (·.push .none) >>= fun _ => updateSeq S (·.pop)) _ _ _
  refine wpAny_bind (wpAny_updateSeq hS6 rfl ?_)
  have e9 := Heap.get?_update_self (h := s6.heap) (f := Obj.mapSeq (·.push Value.none)) hS6 rfl
  refine wpAny_updateSeq e9 rfl ?_ (by show 1 ≤ sizeLine; rw [sizeLine_eq]; decide) (by show 0 ≤ sizeLine + 1; exact Nat.zero_le _)
  have e10 := Heap.get?_update_self (h := s6.heap.update S (Obj.mapSeq (·.push Value.none))) (f := Obj.mapSeq (·.pop)) e9 rfl
  have J := I7.turnedL (h' := (s6.heap.update S (Obj.mapSeq (·.push Value.none))).update S (Obj.mapSeq (·.pop))) (t' := s6.toks) (ch := [S]) (fun b o hb e => (Heap.get?_update_other _ _ (fun z => hb (by simp [z]))).trans ((Heap.get?_update_other _ _ (fun z => hb (by simp [z]))).trans e)) (fun b hb => by rw [List.mem_singleton.mp hb]; exact fS)
  refine wpAny_pure ⟨plainId_quiet PySem.F.plain_extend_loop _, loop _ _ J e10 ?_⟩
  exact (Heap.get?_update_other _ _ Sne').trans ((Heap.get?_update_other _ _ Sne').trans g6)
end
end Tw

set_option Elab.async false
set_option linter.all false
set_option maxRecDepth 100000
set_option maxHeartbeats 2000000
/-! own rule: sorted(t), t a tuple of whole numbers -/
namespace Tw
open PySem PySem.Spec PyProof.Rows L2
section
variable {prog : Program} {w : World} {A : Around} {E : Value → Shared → Prop} {s : Shared}
/-- a tuple's items, gathered: they are met as a list's are -/
theorem gather_tup {t : Addr} {vs : List Value} {Q : List Value → Shared → Prop} (ht : s.heap.IsTuple t vs.toArray)
    (h : Q vs { s with heap := (s.heap.push (seqObj "list" #[] 0)).update s.heap.objs.size (Obj.mapSeq (· ++ vs.toArray)) }) (hz : vs.length ≤ sizeLine) :
    wpAny (model prog w) A (collect (.ref t)) Q E s := by
  obtain ⟨o, ho, hc, n, hd⟩ := ht
  unfold collect
  refine wpAny_bind (wpAny_runValue (codeAny_builtin entry_proto_collect' ?_))
  show wpAny _ _ (do again (.builtin "list.__iadd__" ⟨[← newList [], .ref t], []⟩)) _ _ s
  refine wpAny_bind (wpAny_newList (wpAny_pure ⟨Code.quiet_builtin _ (by decide +kernel), codeAny_builtin entry_list_iadd' ?_⟩))
  show wpAny _ _ (Builtin.List.listExtendWith (.ref s.heap.objs.size) (.ref t) (.ref s.heap.objs.size)) _ _ { s with heap := s.heap.push (seqObj "list" #[] 0) }
  have ho2 : (s.heap.push (seqObj "list" #[] 0)).get? t = some o := Heap.get?_push_of_some _ ho
  unfold Builtin.List.listExtendWith
  refine wpAny_bind (wpAny_typeOf (T := "tuple") ⟨o, ho2, hc⟩ ?_)
  have tt : (Value.type "tuple" == Value.type "tuple") = true := by rfl
  rw [if_pos (by rw [tt]; simp)]
  refine wpAny_bind (listItems_at ho2 hd ?_)
  refine wpAny_bind (listItems_at (xs := #[]) (n := 0) (Heap.get?_push_size _ rfl) rfl ?_)
  rw [if_neg (by simp)]
  refine wpAny_bind (listUpdate_at (xs := #[]) (n := 0) (Heap.get?_push_size _ rfl) rfl ?_ (Nat.zero_le _) (by show (#[] ++ vs.toArray).size ≤ sizeLine + 1; simp only [Array.size_append, List.size_toArray, List.length_nil]; omega))
  refine wpAny_pure ?_
  refine wpAny_bind (wpAny_load (get?_update_seq (Heap.get?_push_size _ rfl) _) ?_)
  show wpAny _ _ (pure ((#[] : Array Value) ++ vs.toArray).toList) Q E _
  rw [show ((#[] : Array Value) ++ vs.toArray).toList = vs by simp]
  exact wpAny_pure h
end
def rSortedTu (K : PySem.W.Frag) : List V → Hp → VK → Prop := fun vs H Q => ∃ (a : Addr) (ns : List Int), vs = [V.ref a] ∧ SqT K H a (ns.map V.int) ∧
  ∀ (ns' : List Int) (p : Addr), ns'.Perm ns → ns'.Pairwise (· ≤ ·) → H p = none → Q (.ref p) (upd H p (.lst (ns'.map V.int)))
section
variable {X : Cx}
theorem cr_sortedTu : CallR X (.builtin "sorted") (rSortedTu X.K) := by
  intro pins s σ H vs us Q I r h
  obtain ⟨a, ns, rfl, hs, q⟩ := h
  obtain ⟨its, rv, hl, hz⟩ := I.tuple hs
  rw [Vals.ref1 r]
  have hi := rv.ints
  have hzi : its.length ≤ sizeLine := by rw [← rv.length]; exact hz
  refine Calls.call_function_entry kind_sorted plain_sorted entry_sorted (args_sorted1 _) ?_
  unfold Builtin.«sorted»
  refine wpAny_bind (m := checkCount "sorted" 1 1 _) (wpAny_pure ?_)
  refine wpAny_bind (gather_tup hl ?_ hzi)
  refine wpAny_bind (wpAny_newList ?_ hzi)
  have hsz : ((s.heap.push (seqObj "list" #[] 0)).update s.heap.objs.size (Obj.mapSeq (· ++ its.toArray))).objs.size = s.heap.objs.size + 1 := by
    rw [Heap.size_update, size_push']
  have hoL : (((s.heap.push (seqObj "list" #[] 0)).update s.heap.objs.size (Obj.mapSeq (· ++ its.toArray))).push (seqObj "list" its.toArray 0)).get? (s.heap.objs.size + 1) = some (seqObj "list" its.toArray 0) := by
    rw [← hsz]
    exact Heap.get?_push_size _ rfl
  show wpAny _ _ _ _ _ { s with heap := ((s.heap.push (seqObj "list" #[] 0)).update s.heap.objs.size (Obj.mapSeq (· ++ its.toArray))).push (seqObj "list" its.toArray 0) }
  rw [hsz]
  refine wpAny_bind (wpAny_holding (wpAny_call_entry slot_list_sort ⟨_, hoL, rfl⟩ entry_list_sort (SrtO.list_sort_ord SrtO.swo_int hoL hzi (fun h2 => SrtO.ints_sortable hi h2) fun out h1 h2 => ⟨_, rfl, ?_⟩) (args_list_sort _)))
  refine wpAny_pure ⟨_, rfl, ?_⟩
  obtain ⟨k1, k2, k3⟩ := SrtO.ints_out hi h1 h2
  obtain ⟨ep, he'⟩ := PyProof.Rows.sortedAll_at s.heap its out.toArray
  have hlen : ((out.map SrtO.iv).map V.int).length ≤ sizeLine := by
    rw [List.length_map, k2.length_eq]
    rw [List.length_map] at hz
    exact hz
  exact ⟨.ref _, upd H (s.heap.objs.size + 1) (.lst ((out.map SrtO.iv).map V.int)), I.laid (t' := s.toks) (fun _ _ => PyProof.Rows.sortedAll_old) (Nat.le_succ _) ⟨hlen, out, ep, vals_of_ints k1, he'⟩, rfl, q _ _ k2 k3 (I.hok.fresh (Nat.le_succ _))⟩
end
end Tw

set_option Elab.async false
set_option linter.all false
set_option maxRecDepth 100000
set_option maxHeartbeats 1000000
/-! != of two tuples of two things, equal ones in turn -/
namespace Cq
open PySem PySem.SeqAt
open AutoSeq1 (wpAny_loadPart')
open MeetsSeq MeetsSeq2 MeetsSeq3 SeqRoads2
theorem pairs_ne {prog : Program} {w : World} {A : Around} {R : Result → Shared → Prop} {p q : Addr} {a b c e : Value} {k k2 : Nat} {u u2 : Option Addr} {z z2 : Array (Option Value)} {s : Shared}
    (hp : s.heap.get? p = some { cls := .type "tuple", dict := u, data := .seq #[a, b] k, slots := z }) (hq : s.heap.get? q = some { cls := .type "tuple", dict := u2, data := .seq #[c, e] k2, slots := z2 })
    (h : wpAny (model prog w) A.in1 (eqBool a c) (fun r s1 => r = true ∧ wpAny (model prog w) A.in1 (eqBool b e) (fun r s2 => r = true ∧ R (.ok (.ret (.bool false))) s2) (fun x s2 => R (.error x) s2) s1) (fun x s1 => R (.error x) s1) s) :
    wpAny (model prog w) A.in1 (Builtin.«tuple.__ne__» ⟨[.ref p, .ref q], []⟩) (GQ.FinOf prog w A R) (fun x s1 => R (.error x) s1) s := by
  have sub2 := AutoSeq1.sub_tuple_tuple
  obtain ⟨hh, gg, dd, tk, os⟩ := s
  wp_walk using wpAny_loadPart' hp, wpAny_loadPart' hq, wpAny_forIn_list _ (fun rest t s1 => t.1 = none ∧ ((rest = [(a, c), (b, e)] ∧ wpAny (model prog w) A.in1 (eqBool a c) (fun r s1 => r = true ∧ wpAny (model prog w) A.in1 (eqBool b e) (fun r s2 => r = true ∧ R (.ok (.ret (.bool false))) s2) (fun x s2 => R (.error x) s2) s1) (fun x s1 => R (.error x) s1) s1) ∨
    (rest = [(b, e)] ∧ wpAny (model prog w) A.in1 (eqBool b e) (fun r s2 => r = true ∧ R (.ok (.ret (.bool false))) s2) (fun x s2 => R (.error x) s2) s1) ∨ (rest = [] ∧ R (.ok (.ret (.bool false))) s1))) _
  case turn =>
    rintro ⟨y, x⟩ rest t s1 ⟨ht, ⟨e1, h1⟩ | ⟨e1, h1⟩ | ⟨e1, _⟩⟩
    · injection e1 with e1 e2
      injection e1 with e3 e4
      subst e3 e4 e2
      refine wpAny_bind (wpAny_mono h1 (fun r s2 g => ?_) fun _ _ g => g)
      obtain ⟨rfl, g⟩ := g
      wp_walk
      exact ⟨rfl, .inr (.inl ⟨rfl, g⟩)⟩
    · injection e1 with e1 e2
      injection e1 with e3 e4
      subst e3 e4 e2
      refine wpAny_bind (wpAny_mono h1 (fun r s2 g => ?_) fun _ _ g => g)
      obtain ⟨rfl, g⟩ := g
      wp_walk
      exact ⟨rfl, .inr (.inr ⟨rfl, g⟩)⟩
    · cases e1
  case fin =>
    rintro ⟨t1, t2⟩ s1 ⟨ht, ⟨e1, _⟩ | ⟨e1, _⟩ | ⟨_, h1⟩⟩
    · cases e1
    · cases e1
    · simp only at ht
      subst ht
      wp_walk
      simpa [Builtin.Tuple.tupleCompareSizes] using h1
  case h => exact ⟨rfl, .inl ⟨rfl, h⟩⟩
end Cq
namespace L2
open PySem PySem.Spec PyProof.Rows
theorem vals_two {a b : V} {l : List Value} (r : Vals [a, b] l) : ∃ x y, l = [x, y] ∧ RelV a x ∧ RelV b y := by
  cases r with
  | cons ra r =>
    cases r with
    | cons rb r =>
      cases r
      exact ⟨_, _, rfl, ra, rb⟩
def DPair (K : PySem.W.Frag) (D1 D2 : Eqv) : Eqv := fun x y H => ∃ (p q : Addr) (a b c e : V), x = .ref p ∧ y = .ref q ∧ SqT K H p [a, b] ∧ SqT K H q [c, e] ∧ D1 a c H ∧ D2 b e H
def rNeP (D : Eqv) : R2 := fun x y H Q => D x y H ∧ ∀ H', Ext H H' → Q (.bl false) H'
theorem op_neP {X : Cx} {n : Nat} {D1 D2 : Eqv} (g1 : EqG X n D1) (g2 : EqG X n D2) (m2 : Mon D2) (hr : Room (n + 1) X.A) : OpR X (compareOp .NotEq) (rNeP (DPair X.K D1 D2)) := by
  intro pins s σ H x y v u Q I rx ry ⟨⟨p, q, a, b, c, e, ex, ey, hp, hq, d1, d2⟩, k⟩
  subst ex ey
  cases rx
  cases ry
  have sb : Sub X (n + 1) X.A := ⟨hr, rfl⟩
  obtain ⟨its, r, e1, _⟩ := I.tuple hp
  obtain ⟨its2, r2, e2, _⟩ := I.tuple hq
  obtain ⟨va, vb, ei, ra, rb⟩ := vals_two r
  obtain ⟨vc, ve, ei2, rc, re⟩ := vals_two r2
  subst ei ei2
  obtain ⟨⟨cl, u1, da, z1⟩, o1, c1, n1, w1⟩ := id e1
  obtain ⟨⟨cl2, u2, da2, z2⟩, o2, c2, n2, w2⟩ := id e2
  dsimp only at c1 w1 c2 w2
  subst c1 w1 c2 w2
  show wpAny (model X.prog X.w) X.A (richCompare .NotEq (.ref p) (.ref q)) (EP X pins σ Q) X.xe s
  refine wpAny_richCompare_same_room (op := .NotEq) ⟨_, o1, rfl⟩ ⟨_, o2, rfl⟩ F.slot_tuple_ne (GQ.call_here F.slot_tuple_ne ⟨_, o1, rfl⟩ F.entry_tuple_ne (F.args_tuple_ne_2 _ _) ?_) hr.units0
  refine Cq.pairs_ne (R := wants (fun v s' => v ≠ .notImplemented ∧ EP X pins σ Q v s') X.xe) o1 o2 ?_
  refine wpAny_mono (g1 X.A.in1 pins s σ H _ _ va vc sb.in1 I ra rc d1) (fun t s1 ⟨ht, H1, I1, x1⟩ => ⟨ht, ?_⟩) fun _ _ g => g
  refine wpAny_mono (g2 X.A.in1 pins s1 σ H1 _ _ vb ve sb.in1 I1 rb re (m2 _ _ _ _ x1 d2)) (fun t s2 ⟨ht, H2, I2, x2⟩ => ⟨ht, ?_⟩) fun _ _ g => g
  exact ⟨(fun g => nomatch g), .bl false, H2, I2, rfl, k H2 (x1.trans x2)⟩
end L2


set_option Elab.async false
set_option linter.all false
set_option maxRecDepth 100000
set_option maxHeartbeats 4000000
/-! set(xs), xs a list of ints, as a value -/
namespace L2
open PySem PySem.Spec PyProof.Rows
section
variable {P : Program} {w : World} {A : Around} {E : Value → Shared → Prop}
/-- the set that is there at first -/
abbrev eS (w : World) : Obj := { cls := .type "set", dict := none, data := .set #[] 0 (.fresh 0 0 (!w.params.followText "set-order")) }
theorem init_over {z : Shared} {D l : Addr} {items : Array Value} {ns : List Int} {R : Result → Shared → Prop} (hh : A.handled = none) (hD : z.heap.get? D = some (eS w)) (hl : z.heap.IsList l items) (hit : IntsAre items.toList ns) (hb : ns.length + 1 < scanBound) (hne : l ≠ D)
    (q : ∀ (h' : Heap) (tk c : Nat), SetR w h' D (fun j => decide (j ∈ ns)) c → c ≤ ns.length → (∀ b o, b ≠ D → z.heap.get? b = some o → h'.get? b = some o) → R (.ok (.ret .none)) { z with heap := h', toks := tk }) :
    codeAny (model P w) A (.call (.builtin "set.__init__") ⟨[.ref D, .ref l], []⟩) R z := by
  have hn : items.size = ns.length := by
    have e := IntsAre.length hit
    rw [Array.length_toList] at e
    exact e
  have hT : Shared.TypeIs z (.ref D) "set" := ⟨_, hD, rfl⟩
  have lD : D < z.heap.objs.size := Heap.lt_size hD
  obtain ⟨⟨oc, od, oa, os⟩, hol, hcl, nl, hdl⟩ := id hl
  have ll : l < z.heap.objs.size := Heap.lt_size hol
  dsimp only at hcl hdl
  subst hcl hdl
  have no1 := F.sub_list_set
  have no2 := F.sub_list_frozenset
  have no3 : (Value.type "list" == Value.type "dict") = false := by decide
  refine codeAny_call_builtin F.called_set.init.plain F.entry_set_init (check_set_init_1 hT ?_)
  unfold Builtin.«set.__init__» noKeywords Builtin.Frozenset.updateFrom
  generalize hPI : pyIter = PI
  wp_walk
  subst hPI
  refine wpAny_pyIter_list hl ?_
  refine wpAny_bind (wpAny_runValue ?_)
  have free3 : A.in1.in1.handled = none := by simp [hh]
  have apart : l ≠ z.heap.objs.size := Nat.ne_of_lt ll
  have offS : D ∉ [z.heap.objs.size, l] := fun m => by
    rcases List.mem_cons.mp m with y | y
    · exact absurd y (Nat.ne_of_lt lD)
    · exact hne (List.mem_singleton.mp y).symm
  have each : ∀ (i : Nat) (v : Value), items[i]? = some v → ∃ k t, ns[i]? = some k ∧ v = .int k t := fun i v e => by
    have hi : i < ns.length := hn ▸ (Array.getElem?_eq_some_iff.mp e).1
    obtain ⟨t, e2⟩ := IntsAre.int_at hit i v (by rw [Array.getElem?_toList]; exact e)
    exact ⟨ns[i], t, List.getElem?_eq_getElem hi, by rw [e2, List.getD_eq_getElem?_getD, List.getElem?_eq_getElem hi]; rfl⟩
  refine set_update_ints ((Walks.list free3 _ l apart items).toS) D offS ns hn hb each (items.size - 0) 0 _ (by omega) (Nat.zero_le _) ?_ ⟨0, Nat.le_refl 0, ?_⟩ ?_
  · exact ⟨⟨_, Heap.get?_push_size _ rfl, rfl, rfl⟩, hl.push _⟩
  · exact setR_new_at (Heap.get?_push_of_some _ hD)
  rintro ⟨h', gens', drawn', tk', os'⟩ c moved hc new
  obtain rfl : gens' = z.gens := moved.gens
  obtain rfl : drawn' = z.drawn := moved.drawn
  obtain rfl : os' = z.os := moved.os
  show wpAny _ _ _ _ _ _
  refine wpAny_pure ?_
  show wpAny _ _ (ret Value.none) _ _ _
  refine wpAny_pure (q h' tk' c new (by omega) fun b o hbD e => ?_)
  have lb : b < z.heap.objs.size := Heap.lt_size e
  refine moved.heap b o (fun m => ?_) (Heap.get?_push_of_some _ e)
  rcases List.mem_cons.mp m with y | y
  · exact hbD y
  · exact absurd (List.mem_singleton.mp y) (Nat.ne_of_lt lb)
theorem set_over {z : Shared} {l : Addr} {items : Array Value} {ns : List Int} {Q : Value → Shared → Prop} (hh : A.handled = none) (hl : z.heap.IsList l items) (hit : IntsAre items.toList ns) (hb : ns.length + 1 < scanBound)
    (q : ∀ (h' : Heap) (tk c : Nat), SetR w h' z.heap.objs.size (fun j => decide (j ∈ ns)) c → c ≤ ns.length → (∀ b o, z.heap.get? b = some o → h'.get? b = some o) → Q (.ref z.heap.objs.size) { z with heap := h', toks := tk }) :
    wpAny (model P w) A (call (.type "set") [.ref l]) Q E z := by
  obtain ⟨c0, t0, mro0⟩ := F.called_set.mro
  have m1 := F.called_set.made
  have m2 := F.called_set.sub
  have m3 := F.called_set.notType
  have m4 := F.called_set.canCreate
  have m5 := F.typeCall_set_1 (.ref l)
  have ll : l < z.heap.objs.size := by
    obtain ⟨o, ho, _⟩ := id hl
    exact Heap.lt_size ho
  refine wpAny_call (codeAny_of_tree ?_)
  show wpAny _ _ (callAny (.type "set") _) _ _ _
  refine wpAny_pure ⟨Code.quiet_builtin _ (by decide +kernel), codeAny_builtin F.entry_type_call ?_⟩
  rw [Around.under_plain (weight_type_call_type "set" [.ref l] []) rfl]
  repeat any_goals first | assumption | wp_step
  have new1 : (z.heap.push (eS w)).get? z.heap.objs.size = some (eS w) := Heap.get?_push_size _ rfl
  refine codeAny_mono (code_set_led1 (.ref l) (E := E) (Q₁ := fun v y => v = .ref z.heap.objs.size ∧ y = { z with heap := z.heap.push (eS w) }) ⟨rfl, rfl⟩) fun r y hr => ?_
  cases r with
  | error e => exact hr
  | ok fl =>
    cases fl with
    | ret v =>
      obtain ⟨rfl, rfl⟩ := hr
      have hT : Shared.TypeIs { z with heap := z.heap.push (eS w) } (.ref z.heap.objs.size) "set" := ⟨_, new1, rfl⟩
      have i1 := F.called_set.init.lookup
      have i2 := F.called_set.init.bind (.ref z.heap.objs.size)
      repeat any_goals first | assumption | wp_step
      refine init_over (A := A.in1) (z := { z with heap := z.heap.push (eS w) }) (D := z.heap.objs.size) (by simp [hh]) new1 (hl.push _) hit hb (Nat.ne_of_lt ll) fun h' tk c S hc k => ?_
      show wpAny _ _ (pure (some Value.none)) _ _ _
      repeat any_goals first | assumption | wp_step
      exact q h' tk c S hc fun b o e => k b o (Nat.ne_of_lt (Heap.lt_size e)) (Heap.get?_push_of_some _ e)
    | _ => exact hr.elim
end
section
variable {X : Cx}
/-- set(xs) -/
def rSetLI (K : PySem.W.Frag) (w : World) : List V → Hp → VK → Prop := fun xs H Q => ∃ (l : Addr) (ns : List Int), xs = [V.ref l] ∧ SqL K H l (ns.map V.int) ∧ ns.length ≤ 1000 ∧ ∀ p n, n ≤ ns.length → H p = none → Q (.ref p) (upd H p (SetO w p (fun j => decide (j ∈ ns)) n))
theorem cr_setLI (hc : X.calm = true) : CallR X (.type "set") (rSetLI X.K X.w) := by
  intro pins s σ H xs us Q I r h
  obtain ⟨l, ns, rfl, hl, h1, q⟩ := h
  obtain ⟨its, rv, pl, _⟩ := I.list hl
  rw [Vals.ref1 r]
  refine set_over (I.ok.hd hc) pl.isList (ns := ns) (by simpa using rv.ints) (by unfold scanBound; omega) fun h' tk c R hc k => ?_
  exact ⟨.ref _, upd H s.heap.objs.size (SetO X.w s.heap.objs.size (fun j => decide (j ∈ ns)) c), I.laid (t' := tk) k (Nat.le_refl _) (setO_new R), rfl, q _ c hc (I.hok.fresh (Nat.le_refl _))⟩
end
end L2

set_option Elab.async false
set_option linter.all false
set_option maxRecDepth 100000
set_option maxHeartbeats 4000000
/-! sorted(xs), xs a list of tuples of ints, as long as a list may be -/
namespace L2
open PySem PySem.Spec PyProof.Rows PySem.W
abbrev tupE (ns : List Int) : PyData := .tuple (ns.map .int)
theorem tupE_le : dataLe false tupE = fun p q => decide (p ≤ q) := by
  funext p q
  show (!dataLt (.tuple (q.map .int)) (.tuple (p.map .int))) = _
  rw [dataLt_tuple]
  show (!rowLt (q.map .int) (p.map .int)) = _
  rw [dataLt_ints]
  by_cases h : q < p
  · have h' : ¬ p ≤ q := fun r => List.not_lt.mpr r h
    simp [h, h']
  · have h' : p ≤ q := List.not_lt.mp h
    simp [h, h']
section
variable {X : Cx} {pins : List (Addr × Obj)} {σ : St} {H : Hp} {s : Shared}
abbrev TupV (K : PySem.W.Frag) (H : Hp) (u : Value) (ns : List Int) : Prop := ∃ t, u = .ref t ∧ SqT K H t (ns.map V.int)
theorem tupV_of : ∀ {xs : List V} {bs : List (List Int)} {us : List Value}, Paired (TupI X.K H) xs bs → Vals xs us → EachIs (TupV X.K H) us bs
  | _, _, _, .nil, .nil => .nil
  | _, _, _, .cons ⟨t, e, h⟩ p, .cons r v => by
    subst e
    cases r
    exact .cons ⟨t, rfl, h⟩ (tupV_of p v)
theorem tupV_to : ∀ {bs : List (List Int)} {us : List Value}, EachIs (TupV X.K H) us bs → Paired (TupI X.K H) (us.map bkV) bs ∧ ∀ u ∈ us, ∃ a, u = Value.ref a
  | _, _, .nil => ⟨.nil, fun u hu => absurd hu (by simp)⟩
  | _, _, .cons ⟨t, e, h⟩ p => by
    subst e
    obtain ⟨h1, h2⟩ := tupV_to p
    refine ⟨.cons ⟨t, rfl, h⟩ h1, fun u hu => ?_⟩
    rcases List.mem_cons.mp hu with e | hu
    · exact ⟨t, e⟩
    · exact h2 u hu
theorem tupV_reads (I : Inv X pins σ H s) {u : Value} {ns : List Int} (h : TupV X.K H u ns) : ∃ as, Reads s.heap u (tupE ns) as := by
  obtain ⟨t, rfl, ht⟩ := h
  obtain ⟨its, rv, hT, _⟩ := I.tuple ht
  exact ⟨_, reads_tuple_ints hT (by simpa using rv.ints)⟩
/-- sorted(xs): the items ascending as tuples are -/
def rSortTA (K : PySem.W.Frag) : List V → Hp → VK → Prop := fun vs H Q => ∃ (a : Addr) (xs : List V) (bs : List (List Int)), vs = [V.ref a] ∧ SqL K H a xs ∧ Paired (TupI K H) xs bs ∧ (∀ b ∈ bs, b ≠ []) ∧
  ∀ (ys : List V) (p : Addr), Paired (TupI K H) ys (bs.mergeSort fun p q => decide (p ≤ q)) → H p = none → Q (.ref p) (upd H p (.lst ys))
theorem cr_sortTA (hu : X.A.units + 65 < cLine) : CallR X (.builtin "sorted") (rSortTA X.K) := by
  intro pins s σ H vs us Q I r h
  obtain ⟨a, xs, bs, rfl, hs, hp, hne, q⟩ := h
  obtain ⟨its, rv, hl, hz⟩ := I.list hs
  rw [Vals.ref1 r]
  have e0 : EachIs (TupV X.K H) its bs := tupV_of hp rv
  have hlen : bs.length = xs.length := (Paired.length hp).symm
  refine sorted_data (A := X.A) (R := TupV X.K H) (enc := tupE) hl.isList e0 (e0.mono fun u ns h => tupV_reads I h) (AllAlike.of fun b b' => by simp [alike, alike_ints]) (.inl fun d hd => ?_) (by rw [hlen]; exact hz) (fun b _ => ?_) fun out ho eo => ?_
  · obtain ⟨b, hb, rfl⟩ := List.mem_map.mp hd
    match b, hne b hb with
    | x :: r, _ => exact ⟨_, _, rfl⟩
  · have : (tupE b).depth ≤ 1 := by simp [PyData.depth, depth_ints]
    omega
  · rw [tupE_le] at eo
    obtain ⟨e1, e2⟩ := tupV_to eo
    obtain ⟨ep, he'⟩ := PyProof.Rows.sortedAll_at s.heap its out.toArray
    have hz2 : (out.map bkV).length ≤ sizeLine := by
      rw [List.length_map, ho, hlen]
      exact hz
    exact ⟨.ref _, upd H (s.heap.objs.size + 1) (.lst (out.map bkV)), I.laid (t' := s.toks) (fun _ _ => PyProof.Rows.sortedAll_old) (Nat.le_succ _) ⟨hz2, out, ep, bkV_vals e2, he'⟩, rfl, q _ _ e1 (I.hok.fresh (Nat.le_succ _))⟩
end
end L2

set_option Elab.async false
set_option linter.all false
set_option maxRecDepth 100000
set_option maxHeartbeats 4000000
/-! math.factorial -/
namespace L2
open PySem PySem.Spec PyProof.Rows
section
variable {X : Cx}
abbrev facN (n : Nat) : Nat := PySem.Builtin.Math.factorialNat n
def rFac : List V → Hp → VK → Prop := fun vs H Q => ∃ n : Nat, vs = [.int n] ∧ n ≤ 20000 ∧ Q (.int (facN n : Nat)) H
theorem cr_fac : CallR X (.builtin "math.factorial") rFac := by
  intro pins s σ H vs us Q I r h
  obtain ⟨n, rfl, hn, q⟩ := h
  cases r with
  | cons r1 r2 =>
    cases r2
    obtain ⟨t, rfl⟩ := r1
    exact PySem.W.mc_factorial (by omega) (by omega) fun _ => ⟨.int _, H, I.tok _, ⟨_, rfl⟩, q⟩
end
end L2

set_option Elab.async false
set_option linter.all false
set_option maxRecDepth 100000
set_option maxHeartbeats 4000000
/-! sorted(xs), xs a list of one item at most, whatever it is -/
namespace L2
open PySem PySem.Spec PyProof.Rows PySem.W
section
variable {X : Cx}
def rSort1 (K : PySem.W.Frag) : List V → Hp → VK → Prop := fun vs H Q => ∃ (a : Addr) (xs : List V), vs = [V.ref a] ∧ SqL K H a xs ∧ xs.length ≤ 1 ∧
  ∀ p : Addr, H p = none → Q (.ref p) (upd H p (.lst xs))
theorem cr_sort1 : CallR X (.builtin "sorted") (rSort1 X.K) := by
  intro pins s σ H vs us Q I r h
  obtain ⟨a, xs, rfl, hs, h1, q⟩ := h
  obtain ⟨its, rv, hl, hz⟩ := I.list hs
  rw [Vals.ref1 r]
  have hlen : xs.length = its.length := rv.length
  refine Srt.sorted_any hl.isList (by omega) (fun h2 => by omega) fun out hp => ?_
  have e : out = its := by
    match its, hlen with
    | [], _ => exact List.Perm.eq_nil hp
    | [x], _ => exact List.perm_singleton.mp hp
    | _ :: _ :: _, hl => simp only [List.length_cons] at hl; omega
  subst e
  obtain ⟨ep, he'⟩ := PyProof.Rows.sortedAll_at s.heap out out.toArray
  exact ⟨.ref _, upd H (s.heap.objs.size + 1) (.lst xs), I.laid (t' := s.toks) (fun _ _ => PyProof.Rows.sortedAll_old) (Nat.le_succ _) ⟨hz, out, ep, rv, he'⟩, rfl, q _ (I.hok.fresh (Nat.le_succ _))⟩
end
end L2

set_option Elab.async false
set_option linter.all false
set_option maxRecDepth 100000
set_option maxHeartbeats 4000000
/-! xs.extend(t), t a tuple -/
namespace PySem
open PySem PySem.W PySem.AutoSeq1
theorem ext_tup {l b : Addr} {items items2 : Array Value} {n n2 : Nat} {dc : Option Addr} {sl : Array (Option Value)} (hs0 : ¬(!items.isEmpty && Builtin.List.listTooLong (items.size + items2.size)) = true) (hs1 : items.size ≤ sizeLine) (hs2 : items.size + items2.size ≤ sizeLine + 1) :
    Meets (Builtin.«list.extend» ⟨[.ref l, .ref b], []⟩) (fun _ R s => s.heap.get? l = some { cls := .type "list", dict := none, data := .seq items n, slots := #[] } ∧ s.heap.get? b = some { cls := .type "tuple", dict := dc, data := .seq items2 n2, slots := sl } ∧
      R (.ok (.ret Value.none)) { s with heap := s.heap.update l (Obj.mapSeq fun x => x ++ items2), toks := s.toks }) :=
  .of_wp fun prog w A R s h => by
    obtain ⟨hp, g, d, tk, os⟩ := s
    obtain ⟨hl, hb, h⟩ := h
    have f1 := idx_int
    have f2 := sub_tuple_tuple
    have f3 := sub_list_list
    have f4 := sub_tuple_list
    have f5 := sub_list_tuple
    have hz' : (items ++ items2).size ≤ sizeLine + 1 := by rw [Array.size_append]; exact hs2
    wp_walk using (wpAny_updateSeq hl rfl (hz := hs1) (_hz' := hz')), wpAny_loadPart' hl, wpAny_loadPart' hb
    exact ⟨_, rfl, h⟩
end PySem
namespace L2
open PySem PySem.Spec PyProof.Rows PySem.W
section
variable {X : Cx}
def rExtT (K : PySem.W.Frag) : V → List V → Hp → VK → Prop := fun x vs H Q => ∃ (l b : Addr) (xs zs : List V), x = .ref l ∧ vs = [.ref b] ∧ H l = some (.lst xs) ∧ SqT K H b zs ∧ xs.length + zs.length ≤ sizeLine ∧
  Q .non (upd H l (.lst (xs ++ zs)))
theorem mt_extendT : MtM X "list.extend" (rExtT X.K) := by
  intro pins s σ H x vs v us Q I rx rv h
  obtain ⟨l, b, xs, zs, rfl, rfl, hH, hB, hz, q⟩ := h
  cases rx
  obtain ⟨u, rfl, ru⟩ := rv.one
  cases ru
  obtain ⟨z, its, n, r, hl, e⟩ := I.lstM hH
  obtain ⟨its2, r2, ⟨ob, eb, hc, n2, hd⟩, hl2⟩ := I.tuple hB
  obtain ⟨cls, dc, data, sl⟩ := ob
  dsimp only at hc hd
  subst hc hd
  have h1 := r.length
  have h2 := r2.length
  have hsz : its.toArray.size + its2.toArray.size ≤ sizeLine := by rw [List.size_toArray, List.size_toArray]; omega
  have hlong : ¬ (!its.toArray.isEmpty && Builtin.List.listTooLong (its.toArray.size + its2.toArray.size)) = true := by
    rw [notLongL hsz, Bool.and_false]
    exact Bool.false_ne_true
  refine call_meets F.slot_list_extend ⟨_, e, rfl⟩ F.entry_list_extend (F.args_list_extend_2 _ _) (PySem.ext_tup hlong (by rw [List.size_toArray]; omega) (by omega)) ⟨e, eb, ?_⟩
  refine ⟨.non, _, I.lset (its' := its ++ its2) hH e (by simp) (r.append r2) ?_, rfl, q⟩
  rw [List.length_append]
  omega
end
end L2

set_option Elab.async false
set_option linter.all false
set_option maxRecDepth 100000
set_option maxHeartbeats 4000000
/-! set(xs), xs a tuple of ints, as a value -/
namespace L2
open PySem PySem.Spec PyProof.Rows
section
variable {P : Program} {w : World} {A : Around} {E : Value → Shared → Prop}
theorem sub_tup_set : isSubtype (.type "tuple") (.type "set") = pure false := by rw [isSubtype_type]; kernel_rfl
theorem sub_tup_frz : isSubtype (.type "tuple") (.type "frozenset") = pure false := by rw [isSubtype_type]; kernel_rfl
theorem init_overT {z : Shared} {D l : Addr} {items : Array Value} {ns : List Int} {R : Result → Shared → Prop} (hh : A.handled = none) (hD : z.heap.get? D = some (eS w)) (hl : z.heap.IsTuple l items) (hit : IntsAre items.toList ns) (hb : ns.length + 1 < scanBound) (hne : l ≠ D)
    (q : ∀ (h' : Heap) (tk c : Nat), SetR w h' D (fun j => decide (j ∈ ns)) c → c ≤ ns.length → (∀ b o, b ≠ D → z.heap.get? b = some o → h'.get? b = some o) → R (.ok (.ret .none)) { z with heap := h', toks := tk }) :
    codeAny (model P w) A (.call (.builtin "set.__init__") ⟨[.ref D, .ref l], []⟩) R z := by
  have hn : items.size = ns.length := by
    have e := IntsAre.length hit
    rw [Array.length_toList] at e
    exact e
  have hT : Shared.TypeIs z (.ref D) "set" := ⟨_, hD, rfl⟩
  have lD : D < z.heap.objs.size := Heap.lt_size hD
  obtain ⟨⟨oc, od, oa, os⟩, hol, hcl, nl, hdl⟩ := id hl
  have ll : l < z.heap.objs.size := Heap.lt_size hol
  dsimp only at hcl hdl
  subst hcl hdl
  have no1 := sub_tup_set
  have no2 := sub_tup_frz
  have no3 : (Value.type "tuple" == Value.type "dict") = false := by decide
  refine codeAny_call_builtin F.called_set.init.plain F.entry_set_init (check_set_init_1 hT ?_)
  unfold Builtin.«set.__init__» noKeywords Builtin.Frozenset.updateFrom
  generalize hPI : pyIter = PI
  wp_walk
  subst hPI
  refine wpAny_pyIter_tuple hl ?_
  refine wpAny_bind (wpAny_runValue ?_)
  have free3 : A.in1.in1.handled = none := by simp [hh]
  have apart : l ≠ z.heap.objs.size := Nat.ne_of_lt ll
  have offS : D ∉ [z.heap.objs.size, l] := fun m => by
    rcases List.mem_cons.mp m with y | y
    · exact absurd y (Nat.ne_of_lt lD)
    · exact hne (List.mem_singleton.mp y).symm
  have each : ∀ (i : Nat) (v : Value), items[i]? = some v → ∃ k t, ns[i]? = some k ∧ v = .int k t := fun i v e => by
    have hi : i < ns.length := hn ▸ (Array.getElem?_eq_some_iff.mp e).1
    obtain ⟨t, e2⟩ := IntsAre.int_at hit i v (by rw [Array.getElem?_toList]; exact e)
    exact ⟨ns[i], t, List.getElem?_eq_getElem hi, by rw [e2, List.getD_eq_getElem?_getD, List.getElem?_eq_getElem hi]; rfl⟩
  refine set_update_ints ((Walks.tuple free3 _ l apart items).toS) D offS ns hn hb each (items.size - 0) 0 _ (by omega) (Nat.zero_le _) ?_ ⟨0, Nat.le_refl 0, ?_⟩ ?_
  · exact ⟨⟨_, Heap.get?_push_size _ rfl, rfl, rfl⟩, hl.push _⟩
  · exact setR_new_at (Heap.get?_push_of_some _ hD)
  rintro ⟨h', gens', drawn', tk', os'⟩ c moved hc new
  obtain rfl : gens' = z.gens := moved.gens
  obtain rfl : drawn' = z.drawn := moved.drawn
  obtain rfl : os' = z.os := moved.os
  show wpAny _ _ _ _ _ _
  refine wpAny_pure ?_
  show wpAny _ _ (ret Value.none) _ _ _
  refine wpAny_pure (q h' tk' c new (by omega) fun b o hbD e => ?_)
  have lb : b < z.heap.objs.size := Heap.lt_size e
  refine moved.heap b o (fun m => ?_) (Heap.get?_push_of_some _ e)
  rcases List.mem_cons.mp m with y | y
  · exact hbD y
  · exact absurd (List.mem_singleton.mp y) (Nat.ne_of_lt lb)
theorem set_overT {z : Shared} {l : Addr} {items : Array Value} {ns : List Int} {Q : Value → Shared → Prop} (hh : A.handled = none) (hl : z.heap.IsTuple l items) (hit : IntsAre items.toList ns) (hb : ns.length + 1 < scanBound)
    (q : ∀ (h' : Heap) (tk c : Nat), SetR w h' z.heap.objs.size (fun j => decide (j ∈ ns)) c → c ≤ ns.length → (∀ b o, z.heap.get? b = some o → h'.get? b = some o) → Q (.ref z.heap.objs.size) { z with heap := h', toks := tk }) :
    wpAny (model P w) A (call (.type "set") [.ref l]) Q E z := by
  obtain ⟨c0, t0, mro0⟩ := F.called_set.mro
  have m1 := F.called_set.made
  have m2 := F.called_set.sub
  have m3 := F.called_set.notType
  have m4 := F.called_set.canCreate
  have m5 := F.typeCall_set_1 (.ref l)
  have ll : l < z.heap.objs.size := by
    obtain ⟨o, ho, _⟩ := id hl
    exact Heap.lt_size ho
  refine wpAny_call (codeAny_of_tree ?_)
  show wpAny _ _ (callAny (.type "set") _) _ _ _
  refine wpAny_pure ⟨Code.quiet_builtin _ (by decide +kernel), codeAny_builtin F.entry_type_call ?_⟩
  rw [Around.under_plain (weight_type_call_type "set" [.ref l] []) rfl]
  repeat any_goals first | assumption | wp_step
  have new1 : (z.heap.push (eS w)).get? z.heap.objs.size = some (eS w) := Heap.get?_push_size _ rfl
  refine codeAny_mono (code_set_led1 (.ref l) (E := E) (Q₁ := fun v y => v = .ref z.heap.objs.size ∧ y = { z with heap := z.heap.push (eS w) }) ⟨rfl, rfl⟩) fun r y hr => ?_
  cases r with
  | error e => exact hr
  | ok fl =>
    cases fl with
    | ret v =>
      obtain ⟨rfl, rfl⟩ := hr
      have hT : Shared.TypeIs { z with heap := z.heap.push (eS w) } (.ref z.heap.objs.size) "set" := ⟨_, new1, rfl⟩
      have i1 := F.called_set.init.lookup
      have i2 := F.called_set.init.bind (.ref z.heap.objs.size)
      repeat any_goals first | assumption | wp_step
      refine init_overT (A := A.in1) (z := { z with heap := z.heap.push (eS w) }) (D := z.heap.objs.size) (by simp [hh]) new1 (hl.push _) hit hb (Nat.ne_of_lt ll) fun h' tk c S hc k => ?_
      show wpAny _ _ (pure (some Value.none)) _ _ _
      repeat any_goals first | assumption | wp_step
      exact q h' tk c S hc fun b o e => k b o (Nat.ne_of_lt (Heap.lt_size e)) (Heap.get?_push_of_some _ e)
    | _ => exact hr.elim
end
section
variable {X : Cx}
/-- set(xs) -/
def rSetTI (K : PySem.W.Frag) (w : World) : List V → Hp → VK → Prop := fun xs H Q => ∃ (l : Addr) (ns : List Int), xs = [V.ref l] ∧ SqT K H l (ns.map V.int) ∧ ns.length ≤ 1000 ∧ ∀ p n, n ≤ ns.length → H p = none → Q (.ref p) (upd H p (SetO w p (fun j => decide (j ∈ ns)) n))
theorem cr_setTI (hc : X.calm = true) : CallR X (.type "set") (rSetTI X.K X.w) := by
  intro pins s σ H xs us Q I r h
  obtain ⟨l, ns, rfl, hl, h1, q⟩ := h
  obtain ⟨its, rv, pl, _⟩ := I.tuple hl
  rw [Vals.ref1 r]
  refine set_overT (I.ok.hd hc) pl (ns := ns) (by simpa using rv.ints) (by unfold scanBound; omega) fun h' tk c R hc k => ?_
  exact ⟨.ref _, upd H s.heap.objs.size (SetO X.w s.heap.objs.size (fun j => decide (j ∈ ns)) c), I.laid (t' := tk) k (Nat.le_refl _) (setO_new R), rfl, q _ c hc (I.hok.fresh (Nat.le_refl _))⟩
end
end L2

set_option Elab.async false
set_option linter.all false
set_option maxRecDepth 100000
set_option maxHeartbeats 4000000
/-! t > u, both tuples of ints -/
namespace L2
open PySem PySem.Spec PyProof.Rows
abbrev gtB (ns ms : List Int) : Bool := Ob.lexAt (fun j => decide (ns.getD j 0 = ms.getD j 0)) (fun j => decide (ms.getD j 0 < ns.getD j 0)) (decide (ms.length < ns.length)) 0 (min ns.length ms.length)
def rGtT (K : PySem.W.Frag) : R2 := fun x y H Q => ∃ (t1 t2 : Addr) (ns ms : List Int), (x = .ref t1 ∧ y = .ref t2) ∧ (SqT K H t1 (ns.map V.int) ∧ SqT K H t2 (ms.map V.int)) ∧ Q (.bl (gtB ns ms)) H
theorem op_gtT {X : Cx} (few : X.A.units < cLine) : OpR X (compareOp .Gt) (rGtT X.K) := by
  rintro pins s σ H x y v u Q I rx ry ⟨t1, t2, ns, ms, ⟨rfl, rfl⟩, ⟨h1, h2⟩, q⟩
  cases rx; cases ry
  obtain ⟨us, va, pa, _⟩ := I.tuple h1
  obtain ⟨ws, vb, pb, _⟩ := I.tuple h2
  have item : ∀ {zs : List Value} {ks : List Int}, IntsAre zs ks → ∀ j (h : j < zs.toArray.size), ∃ t, zs.toArray[j] = .int (ks.getD j 0) t := fun ii j h =>
    PyProof.Rows.IntsAre.int_at ii _ _ (by simp at h; simp [h])
  have size : ∀ {zs : List Value} {ks : List Int}, IntsAre zs ks → zs.toArray.size = ks.length := fun ii => by rw [List.size_toArray]; exact ii.length
  have beq : ∀ a b : Int, decide (a = b) = (a == b) := fun a b => by
    by_cases c : a = b
    · subst c; simp
    · rw [decide_eq_false c]; exact (beq_eq_false_iff_ne.mpr c).symm
  have main := Ob.RcOp.tuples_gt (A := X.A) (s := s) (e := fun j => decide (ns.getD j 0 = ms.getD j 0)) (r := fun j => decide (ms.getD j 0 < ns.getD j 0)) pa pb few
    (fun j i1 i2 => by
      obtain ⟨k1, g1⟩ := item va.ints j i1
      obtain ⟨k2, g2⟩ := item vb.ints j i2
      rw [g1, g2, beq]
      exact SeqAt.EqAt.int_int _ _ _ _)
    (fun j i1 i2 _ => by
      obtain ⟨k1, g1⟩ := item va.ints j i1
      obtain ⟨k2, g2⟩ := item vb.ints j i2
      rw [g1, g2]
      exact Ob.RcOp.gt_int _ _ _ _)
  rw [size va.ints, size vb.ints] at main
  exact main X.prog X.w X.xe (EP X pins σ Q) ⟨.bl _, H, I, rfl, q⟩
end L2

set_option Elab.async false
set_option linter.all false
set_option maxRecDepth 100000
set_option maxHeartbeats 4000000
/-! o.m(e, .., k = v, ..); an expression read in one of two ways -/
namespace L2
open PySem PySem.Spec PyProof.Rows PySem.W
/-- a method with keywords -/
def tMethN (C : Addr) (m : Str) (n j : Nat) (sp : Sp) (gV : List V → List V → List V) (E : XK) (ta : TE) (t tk : TA) : TE := fun σ H Q => ta σ H fun x H1 => ∃ a dx fs, x = .ref a ∧ H1 a = some (.ins C dx fs) ∧ fs.lookup m = none ∧
  t σ H1 fun vs H2 => tk σ H2 fun zs H3 => vs.length = n ∧ zs.length = j ∧ sp (gV (x :: vs) zs) H3 Q E
section
variable {X : Cx} {CX : CXT} {k n : Nat} {f C : Addr} {fd : FuncData} {ps ks : List Str} {sp : Sp} {E : XK} {m : Str} {pos apos : Pos} {e o : Expr} {es : List Expr} {kws : List Keyword} {ta : TE} {t tk : TA} {g : List Value → List Value → List Value} {gV : List V → List V → List V}
theorem pe_methN {pl : Sem Bool} (he : PE X o ta) (c : Cls X.K C) (hm : Meth X.K C m f) (F : FnOk X.prog X.w X.K X.mg X.base CX k f fd ps sp) (hr : Room k X.A) (hb : KBn X.K fd ps (n + 1) ks g gV) (hx : Passes CX X E) (ha : PA X (e :: es) t) (hkw : PK X kws tk)
    (hall : (backToKw pos (keywordEach kws X.env)).all (·.1.isSome) = true := by rfl) (hks : (backToKw pos (keywordEach kws X.env)).filterMap (·.1) = ks := by rfl)
    (hst : starEach (e :: es) X.env = (false, eval e X.env) :: starEach es X.env := by rfl) (hpl : ((backTo pos (starEach (e :: es) X.env)).any (·.1) || (backToKw pos (keywordEach kws X.env)).any (·.1.isNone)) = false := by rfl)
    (ht : eval (.Call (.Attribute o m apos) (e :: es) kws pos) X.env = (do
      let ov ← eval o X.env
      standAt apos.atName
      let (f, first) ← holding [ov] (getMethod ov m pl)
      callWith pos f first (backTo pos (starEach (e :: es) X.env)) (backToKw pos (keywordEach kws X.env))) := by rfl) :
    PE X (.Call (.Attribute o m apos) (e :: es) kws pos) (tMethN C m n ks.length sp gV E ta t tk) := by
  refine ⟨fun pins s σ H Q I h => ?_⟩
  refine PySem.W.methodCall_KW (pl := pl) (thn (he.run pins s σ H _ I h) fun u s1 ⟨x, H1, I1, rx, a, dx, fs, ex, ea, l, q⟩ => ?_) ht
  subst ex
  obtain rfl : u = Value.ref a := rx
  refine getmeth_ok I1 ea c hm l ?_
  refine PySem.W.callWith_KW (first := [.ref a]) (h₀ := X.base) I.ok.mod.kin hm.kp hall (thn (ha.run pos pins s1 σ H1 _ I1 q) fun us s2 ⟨vs, H2, I2, r, q2⟩ => ?_) hpl hst
  refine thn (hkw.run pos pins s2 σ H2 _ I2 q2) fun ws s3 ⟨zs, H3, I3, rz, l1, l2, q3⟩ => ⟨I3.kIn, ?_⟩
  rw [hks]
  exact run_fnN (us := .ref a :: us) (vs := .ref a :: vs) F hr hb hx I3 (.cons rfl r) rz (by rw [List.length_cons, l1]) l2 q3
/-- an expression that may be read in two ways -/
theorem pe_two {a : Expr} {t1 t2 : TE} (h1 : PE X a t1) (h2 : PE X a t2) : PE X a (fun σ H Q => t1 σ H Q ∨ t2 σ H Q) :=
  ⟨fun pins s σ H Q I h => h.elim (h1.run pins s σ H Q I) (h2.run pins s σ H Q I)⟩
end
end L2

set_option Elab.async false
set_option linter.all false
set_option maxRecDepth 100000
set_option maxHeartbeats 4000000
/-! zip over two tuples, as a walk; != of own objects of two classes -/
namespace L2
open PySem PySem.Spec PyProof.Rows
theorem walk_zipT {K : PySem.W.Frag} {a b : Addr} {xs ys : List V} {n : Nat} (hn : n = min xs.length ys.length) : Walk (RZ.ItzT K a b) n (fun H => SqT K H a xs ∧ SqT K H b ys) (YPair (fun i => xs[i]?) (fun i => ys[i]?)) := by
  subst hn
  refine ⟨fun i _ hi q => ?_, fun _ q => ⟨xs, ys, q.1, q.2, by omega⟩, fun i H v H' _ q y => ?_⟩
  · have h1 : i < xs.length := by omega
    have h2 : i < ys.length := by omega
    exact ⟨xs, ys, xs[i], ys[i], q.1, q.2, by simp [h1], by simp [h2]⟩
  · obtain ⟨T, x, z, h1, h2, h3, h4, h5⟩ := y
    exact ⟨T, x, z, h1, h2, h3, h4 xs q.1, h5 ys q.2⟩
end L2
namespace Tw
open PySem PySem.Spec PyProof.Rows L2
open PySem.W (InstAt looks_findIn looks_subIn ifBound_K cmp_K)
section
variable {X : Cx} {CX : CXT} {k : Nat} {f C D : Addr} {fd : FuncData} {ps : List Str} {sp : Sp} {E : XK}
/-- != where the other one is an object of another class -/
def rNeD (C D : Addr) (sp : Sp) (E : XK) : R2 := fun x y H Q =>
  ∃ a dx fs b dy gs, x = .ref a ∧ H a = some (.ins C dx fs) ∧ y = .ref b ∧ H b = some (.ins D dy gs) ∧ sp [.ref a, y] H (fun v H' => ∃ r, v = .bl r ∧ Q (.bl (!r)) H') E
theorem op_ne_two (c : EqC X.K C f) (hd : PySem.W.notFirst X.K C (.ref D) = true) (F : FnOk X.prog X.w X.K X.mg X.base CX k f fd ps sp) (hr : Room (k + 1) X.A) (hb : Binds X.K fd ps []) (hx : Passes CX X E) : OpR X (compareOp .NotEq) (rNeD C D sp E) := by
  intro pins s σ H x y v u Q I rx ry ⟨a, dx, fs, b, dy, gs, ex, ha, ey, hb2, q⟩
  subst ex
  subst ey
  obtain rfl : v = Value.ref a := rx
  obtain rfl : u = Value.ref b := ry
  obtain ⟨mA, O, rr, _, _, _⟩ := ins_get I.hok ha
  obtain ⟨od, J, hl⟩ := O.look
  obtain ⟨mB, OB, rrB, _, _, _⟩ := ins_get I.hok hb2
  obtain ⟨odB, JB, hlB⟩ := OB.look
  obtain ⟨m0, hF⟩ := I.fr
  show wpAny _ _ (richCompare .NotEq (.ref a) (.ref b)) _ _ _
  refine ne_K (Room.units0 hr.in1) hr.units0 hF I.ok.mod.kin J JB.type hd c (thn (run_sub F (Sub.in1 ⟨hr, rfl⟩) hb hx I (.cons (relR a) (.cons (relR b) .nil)) q) fun r s' ⟨z, H', I', rz, b2, ez, q'⟩ => ?_)
  subst ez
  exact ⟨b2, rz, _, H', I', relB (!b2), q'⟩
end
end Tw

set_option Elab.async false
set_option linter.all false
set_option maxRecDepth 100000
set_option maxHeartbeats 2000000
namespace Tw
open PySem PySem.Spec PyProof.Rows L2
def topS (i : Nat) : Stmt := PySem.Challenge.pw_heaprows_k51_evidence_of_standing.main.body.getD i (.Pass ⟨0, 0, 0, 0⟩)
abbrev s_is_integer : Stmt := topS 12
theorem sc_is_integer : FnScope ["thing"] ["thing"] (defScope s_is_integer) := ⟨rfl, rfl, rfl, by decide +kernel, rfl, by decide +kernel, by decide +kernel⟩
abbrev s_is_integer_from : Stmt := topS 13
theorem sc_is_integer_from : FnScope ["thing", "least", "greatest"] ["thing", "least", "greatest"] (defScope s_is_integer_from) := ⟨rfl, rfl, rfl, by decide +kernel, rfl, by decide +kernel, by decide +kernel⟩
abbrev s_is_key : Stmt := topS 14
theorem sc_is_key : FnScope ["thing"] ["thing"] (defScope s_is_key) := ⟨rfl, rfl, rfl, by decide +kernel, rfl, by decide +kernel, by decide +kernel⟩
abbrev s_check_arms : Stmt := topS 15
theorem sc_check_arms : FnScope ["arms"] ["arms"] (defScope s_check_arms) := ⟨rfl, rfl, rfl, by decide +kernel, rfl, by decide +kernel, by decide +kernel⟩
abbrev s_check_many : Stmt := topS 16
theorem sc_check_many : FnScope ["many"] ["many"] (defScope s_check_many) := ⟨rfl, rfl, rfl, by decide +kernel, rfl, by decide +kernel, by decide +kernel⟩
abbrev s_check_place : Stmt := topS 17
theorem sc_check_place : FnScope ["place", "many"] ["place", "many"] (defScope s_check_place) := ⟨rfl, rfl, rfl, by decide +kernel, rfl, by decide +kernel, by decide +kernel⟩
abbrev s_row_of : Stmt := topS 18
theorem sc_row_of : FnScope ["row", "index", "key"] ["row"] (defScope s_row_of) := ⟨rfl, rfl, rfl, by decide +kernel, rfl, by decide +kernel, by decide +kernel⟩
abbrev s_is_full : Stmt := topS 19
theorem sc_is_full : FnScope ["thing", "many", "item"] ["thing", "many"] (defScope s_is_full) := ⟨rfl, rfl, rfl, by decide +kernel, rfl, by decide +kernel, by decide +kernel⟩
abbrev s_is_set_of_places : Stmt := topS 20
theorem sc_is_set_of_places : FnScope ["thing", "many", "item"] ["thing", "many"] (defScope s_is_set_of_places) := ⟨rfl, rfl, rfl, by decide +kernel, rfl, by decide +kernel, by decide +kernel⟩
abbrev s_t___init__ : Stmt := inClass (topS 22) 0
theorem sc_t___init__ : FnScope ["self", "many", "arms"] ["self", "many", "arms"] (defScope s_t___init__) := ⟨rfl, rfl, rfl, by decide +kernel, rfl, by decide +kernel, by decide +kernel⟩
abbrev s_t_of : Stmt := inClass (topS 22) 1
theorem sc_t_of : FnScope ["cls", "row", "arms"] ["cls", "row", "arms"] (defScope s_t_of) := ⟨rfl, rfl, rfl, by decide +kernel, rfl, by decide +kernel, by decide +kernel⟩
abbrev s_t___len__ : Stmt := inClass (topS 22) 2
theorem sc_t___len__ : FnScope ["self"] ["self"] (defScope s_t___len__) := ⟨rfl, rfl, rfl, by decide +kernel, rfl, by decide +kernel, by decide +kernel⟩
abbrev s_t___iter__ : Stmt := inClass (topS 22) 4
theorem sc_t___iter__ : FnScope ["self"] ["self"] (defScope s_t___iter__) := ⟨rfl, rfl, rfl, by decide +kernel, rfl, by decide +kernel, by decide +kernel⟩
abbrev s_t___getitem__ : Stmt := inClass (topS 22) 5
theorem sc_t___getitem__ : FnScope ["self", "place", "first"] ["self", "place"] (defScope s_t___getitem__) := ⟨rfl, rfl, rfl, by decide +kernel, rfl, by decide +kernel, by decide +kernel⟩
abbrev s_t_parent : Stmt := inClass (topS 22) 7
theorem sc_t_parent : FnScope ["self", "place"] ["self", "place"] (defScope s_t_parent) := ⟨rfl, rfl, rfl, by decide +kernel, rfl, by decide +kernel, by decide +kernel⟩
abbrev s_t_way_to : Stmt := inClass (topS 22) 8
theorem sc_t_way_to : FnScope ["self", "place", "way", "above"] ["self", "place"] (defScope s_t_way_to) := ⟨rfl, rfl, rfl, by decide +kernel, rfl, by decide +kernel, by decide +kernel⟩
abbrev s_t_subtree : Stmt := inClass (topS 22) 12
theorem sc_t_subtree : FnScope ["self", "place", "below"] ["self", "place"] (defScope s_t_subtree) := ⟨rfl, rfl, rfl, by decide +kernel, rfl, by decide +kernel, by decide +kernel⟩
abbrev s_is_heap : Stmt := topS 24
theorem sc_is_heap : FnScope ["row", "arms"] ["row", "arms"] (defScope s_is_heap) := ⟨rfl, rfl, rfl, by decide +kernel, rfl, by decide +kernel, by decide +kernel⟩
abbrev s_faults : Stmt := topS 25
theorem sc_faults : FnScope ["row", "arms", "tree", "place"] ["row", "arms"] (defScope s_faults) := ⟨rfl, rfl, rfl, by decide +kernel, rfl, by decide +kernel, by decide +kernel⟩
abbrev s_is_full_heap : Stmt := topS 26
theorem sc_is_full_heap : FnScope ["row", "many", "arms"] ["row", "many", "arms"] (defScope s_is_full_heap) := ⟨rfl, rfl, rfl, by decide +kernel, rfl, by decide +kernel, by decide +kernel⟩
abbrev s_s___init__ : Stmt := inClass (topS 28) 0
theorem sc_s___init__ : FnScope ["self", "row"] ["self", "row"] (defScope s_s___init__) := ⟨rfl, rfl, rfl, by decide +kernel, rfl, by decide +kernel, by decide +kernel⟩
abbrev s_s___eq__ : Stmt := inClass (topS 28) 1
theorem sc_s___eq__ : FnScope ["self", "other"] ["self", "other"] (defScope s_s___eq__) := ⟨rfl, rfl, rfl, by decide +kernel, rfl, by decide +kernel, by decide +kernel⟩
abbrev s_s_shows : Stmt := inClass (topS 28) 2
theorem sc_s_shows : FnScope ["self", "many", "place", "rank", "arms"] ["self", "many", "place", "rank", "arms"] (defScope s_s_shows) := ⟨rfl, rfl, rfl, by decide +kernel, rfl, by decide +kernel, by decide +kernel⟩
abbrev s_b___init__ : Stmt := inClass (topS 29) 0
theorem sc_b___init__ : FnScope ["self", "word", "places"] ["self", "word", "places"] (defScope s_b___init__) := ⟨rfl, rfl, rfl, by decide +kernel, rfl, by decide +kernel, by decide +kernel⟩
abbrev s_b___eq__ : Stmt := inClass (topS 29) 1
theorem sc_b___eq__ : FnScope ["self", "other"] ["self", "other"] (defScope s_b___eq__) := ⟨rfl, rfl, rfl, by decide +kernel, rfl, by decide +kernel, by decide +kernel⟩
abbrev s_b_shows : Stmt := inClass (topS 29) 2
theorem sc_b_shows : FnScope ["self", "many", "place", "rank", "arms", "tree"] ["self", "many", "place", "rank", "arms"] (defScope s_b_shows) := ⟨rfl, rfl, rfl, by decide +kernel, rfl, by decide +kernel, by decide +kernel⟩
abbrev s_stand : Stmt := topS 30
theorem sc_stand : FnScope ["many", "place", "rank", "arms", "tree", "above", "below", "beside", "ahead", "other"] ["many", "place", "rank", "arms"] (defScope s_stand) := ⟨rfl, rfl, rfl, by decide +kernel, rfl, by decide +kernel, by decide +kernel⟩
abbrev s_tree_of_standing : Stmt := topS 31
theorem sc_tree_of_standing : FnScope ["many", "place", "rank", "arms", "tree"] ["many", "place", "rank", "arms"] (defScope s_tree_of_standing) := ⟨rfl, rfl, rfl, by decide +kernel, rfl, by decide +kernel, by decide +kernel⟩
abbrev s_places_above : Stmt := topS 32
theorem sc_places_above : FnScope ["tree", "place"] ["tree", "place"] (defScope s_places_above) := ⟨rfl, rfl, rfl, by decide +kernel, rfl, by decide +kernel, by decide +kernel⟩
abbrev s_places_below : Stmt := topS 33
theorem sc_places_below : FnScope ["tree", "place"] ["tree", "place"] (defScope s_places_below) := ⟨rfl, rfl, rfl, by decide +kernel, rfl, by decide +kernel, by decide +kernel⟩
abbrev s_are_among : Stmt := topS 34
theorem sc_are_among : FnScope ["places", "others", "place"] ["places", "others"] (defScope s_are_among) := ⟨rfl, rfl, rfl, by decide +kernel, rfl, by decide +kernel, by decide +kernel⟩
abbrev s_row_by_order : Stmt := topS 35
theorem sc_row_by_order : FnScope ["places", "row", "key", "place"] ["places"] (defScope s_row_by_order) := ⟨rfl, rfl, rfl, by decide +kernel, rfl, by decide +kernel, by decide +kernel⟩
abbrev s__law_number : Stmt := topS 37
theorem sc__law_number : FnScope ["script", "index", "cells", "cell", "low", "high", "total", "blend"] ["script", "index"] (defScope s__law_number) := ⟨rfl, rfl, rfl, by decide +kernel, rfl, by decide +kernel, by decide +kernel⟩
abbrev s__law_above : Stmt := topS 38
theorem sc__law_above : FnScope ["place", "wide", "found"] ["place", "wide"] (defScope s__law_above) := ⟨rfl, rfl, rfl, by decide +kernel, rfl, by decide +kernel, by decide +kernel⟩
abbrev s__law_below : Stmt := topS 39
theorem sc__law_below : FnScope ["many", "place", "wide", "one"] ["many", "place", "wide"] (defScope s__law_below) := ⟨rfl, rfl, rfl, by decide +kernel, rfl, by decide +kernel, by decide +kernel⟩
abbrev s__law_is_full : Stmt := topS 40
theorem sc__law_is_full : FnScope ["row", "many", "wide", "place"] ["row", "many", "wide"] (defScope s__law_is_full) := ⟨rfl, rfl, rfl, by decide +kernel, rfl, by decide +kernel, by decide +kernel⟩
abbrev s__law_is_part : Stmt := topS 41
theorem sc__law_is_part : FnScope ["places", "able", "most", "one", "other", "place"] ["places", "able", "most"] (defScope s__law_is_part) := ⟨rfl, rfl, rfl, by decide +kernel, rfl, by decide +kernel, by decide +kernel⟩
abbrev s__law_rows : Stmt := topS 42
theorem sc__law_rows : FnScope ["script", "many", "wide", "told", "base", "found", "one", "other", "late", "kept", "same", "key"] ["script", "many", "wide", "told"] (defScope s__law_rows) := ⟨rfl, rfl, rfl, by decide +kernel, rfl, by decide +kernel, by decide +kernel⟩
abbrev s__law_choices : Stmt := topS 43
theorem sc__law_choices : FnScope ["script", "many", "place", "wide", "above", "below", "found", "drawn", "one"] ["script", "many", "place", "wide"] (defScope s__law_choices) := ⟨rfl, rfl, rfl, by decide +kernel, rfl, by decide +kernel, by decide +kernel⟩
abbrev s__law_parts_right : Stmt := topS 44
theorem sc__law_parts_right : FnScope ["row", "places", "lists", "made"] ["row", "places"] (defScope s__law_parts_right) := ⟨rfl, rfl, rfl, by decide +kernel, rfl, by decide +kernel, by decide +kernel⟩
abbrev s_law : Stmt := topS 45
theorem sc_law : FnScope ["script", "seed", "more", "many", "wide", "place", "rank", "base", "found", "row", "due", "some", "places", "able", "word", "those", "most"] ["script"] (defScope s_law) := ⟨rfl, rfl, rfl, by decide +kernel, rfl, by decide +kernel, by decide +kernel⟩
/-- where the text's defs stand -/
structure Ad where
  f_is_integer : Addr
  d_is_integer : FuncData
  f_is_integer_from : Addr
  d_is_integer_from : FuncData
  f_is_key : Addr
  d_is_key : FuncData
  f_check_arms : Addr
  d_check_arms : FuncData
  f_check_many : Addr
  d_check_many : FuncData
  f_check_place : Addr
  d_check_place : FuncData
  f_row_of : Addr
  d_row_of : FuncData
  f_is_full : Addr
  d_is_full : FuncData
  f_is_set_of_places : Addr
  d_is_set_of_places : FuncData
  f_t___init__ : Addr
  d_t___init__ : FuncData
  f_t_of : Addr
  d_t_of : FuncData
  f_t___len__ : Addr
  d_t___len__ : FuncData
  f_t___iter__ : Addr
  d_t___iter__ : FuncData
  f_t___getitem__ : Addr
  d_t___getitem__ : FuncData
  f_t_parent : Addr
  d_t_parent : FuncData
  f_t_way_to : Addr
  d_t_way_to : FuncData
  f_t_subtree : Addr
  d_t_subtree : FuncData
  f_is_heap : Addr
  d_is_heap : FuncData
  f_faults : Addr
  d_faults : FuncData
  f_is_full_heap : Addr
  d_is_full_heap : FuncData
  f_s___init__ : Addr
  d_s___init__ : FuncData
  f_s___eq__ : Addr
  d_s___eq__ : FuncData
  f_s_shows : Addr
  d_s_shows : FuncData
  f_b___init__ : Addr
  d_b___init__ : FuncData
  f_b___eq__ : Addr
  d_b___eq__ : FuncData
  f_b_shows : Addr
  d_b_shows : FuncData
  f_stand : Addr
  d_stand : FuncData
  f_tree_of_standing : Addr
  d_tree_of_standing : FuncData
  f_places_above : Addr
  d_places_above : FuncData
  f_places_below : Addr
  d_places_below : FuncData
  f_are_among : Addr
  d_are_among : FuncData
  f_row_by_order : Addr
  d_row_by_order : FuncData
  f__law_number : Addr
  d__law_number : FuncData
  f__law_above : Addr
  d__law_above : FuncData
  f__law_below : Addr
  d__law_below : FuncData
  f__law_is_full : Addr
  d__law_is_full : FuncData
  f__law_is_part : Addr
  d__law_is_part : FuncData
  f__law_rows : Addr
  d__law_rows : FuncData
  f__law_choices : Addr
  d__law_choices : FuncData
  f__law_parts_right : Addr
  d__law_parts_right : FuncData
  f_law : Addr
  d_law : FuncData
  C : Addr
  po : Addr
  CS : Addr
  CB : Addr
/-- what the top has written -/
structure Tx (K : PySem.W.Frag) (mg : Str → Option Value) (A : Ad) : Prop where
  F_is_integer : Fun K "is_integer" "is_integer" s_is_integer A.f_is_integer A.d_is_integer
  m_is_integer : mg "is_integer" = some (.ref A.f_is_integer)
  F_is_integer_from : Fun K "is_integer_from" "is_integer_from" s_is_integer_from A.f_is_integer_from A.d_is_integer_from
  m_is_integer_from : mg "is_integer_from" = some (.ref A.f_is_integer_from)
  F_is_key : Fun K "is_key" "is_key" s_is_key A.f_is_key A.d_is_key
  m_is_key : mg "is_key" = some (.ref A.f_is_key)
  F_check_arms : Fun K "check_arms" "check_arms" s_check_arms A.f_check_arms A.d_check_arms
  m_check_arms : mg "check_arms" = some (.ref A.f_check_arms)
  F_check_many : Fun K "check_many" "check_many" s_check_many A.f_check_many A.d_check_many
  m_check_many : mg "check_many" = some (.ref A.f_check_many)
  F_check_place : Fun K "check_place" "check_place" s_check_place A.f_check_place A.d_check_place
  m_check_place : mg "check_place" = some (.ref A.f_check_place)
  F_row_of : Fun K "row_of" "row_of" s_row_of A.f_row_of A.d_row_of
  m_row_of : mg "row_of" = some (.ref A.f_row_of)
  F_is_full : Fun K "is_full" "is_full" s_is_full A.f_is_full A.d_is_full
  m_is_full : mg "is_full" = some (.ref A.f_is_full)
  F_is_set_of_places : Fun K "is_set_of_places" "is_set_of_places" s_is_set_of_places A.f_is_set_of_places A.d_is_set_of_places
  m_is_set_of_places : mg "is_set_of_places" = some (.ref A.f_is_set_of_places)
  F_t___init__ : FunD K "__init__" "Tree.__init__" (defArgs s_t___init__) (defBody s_t___init__) (defScope s_t___init__) [] [("arms", V.int 2)] A.f_t___init__ A.d_t___init__
  F_t_of : FunD K "of" "Tree.of" (defArgs s_t_of) (defBody s_t_of) (defScope s_t_of) [] [("arms", V.int 2)] A.f_t_of A.d_t_of
  F_t___len__ : Fun K "__len__" "Tree.__len__" s_t___len__ A.f_t___len__ A.d_t___len__
  D_t___len__ : Dn K A.C "__len__" A.f_t___len__
  F_t___iter__ : Fun K "__iter__" "Tree.__iter__" s_t___iter__ A.f_t___iter__ A.d_t___iter__
  D_t___iter__ : Dn K A.C "__iter__" A.f_t___iter__
  F_t___getitem__ : Fun K "__getitem__" "Tree.__getitem__" s_t___getitem__ A.f_t___getitem__ A.d_t___getitem__
  D_t___getitem__ : Dn K A.C "__getitem__" A.f_t___getitem__
  F_t_parent : Fun K "parent" "Tree.parent" s_t_parent A.f_t_parent A.d_t_parent
  M_t_parent : Meth K A.C "parent" A.f_t_parent
  F_t_way_to : Fun K "way_to" "Tree.way_to" s_t_way_to A.f_t_way_to A.d_t_way_to
  M_t_way_to : Meth K A.C "way_to" A.f_t_way_to
  F_t_subtree : Fun K "subtree" "Tree.subtree" s_t_subtree A.f_t_subtree A.d_t_subtree
  M_t_subtree : Meth K A.C "subtree" A.f_t_subtree
  F_is_heap : FunD K "is_heap" "is_heap" (defArgs s_is_heap) (defBody s_is_heap) (defScope s_is_heap) [] [("arms", V.int 2)] A.f_is_heap A.d_is_heap
  m_is_heap : mg "is_heap" = some (.ref A.f_is_heap)
  F_faults : FunD K "faults" "faults" (defArgs s_faults) (defBody s_faults) (defScope s_faults) [] [("arms", V.int 2)] A.f_faults A.d_faults
  m_faults : mg "faults" = some (.ref A.f_faults)
  F_is_full_heap : Fun K "is_full_heap" "is_full_heap" s_is_full_heap A.f_is_full_heap A.d_is_full_heap
  m_is_full_heap : mg "is_full_heap" = some (.ref A.f_is_full_heap)
  F_s___init__ : Fun K "__init__" "Stands.__init__" s_s___init__ A.f_s___init__ A.d_s___init__
  F_s___eq__ : Fun K "__eq__" "Stands.__eq__" s_s___eq__ A.f_s___eq__ A.d_s___eq__
  F_s_shows : FunD K "shows" "Stands.shows" (defArgs s_s_shows) (defBody s_s_shows) (defScope s_s_shows) [] [("arms", V.int 2)] A.f_s_shows A.d_s_shows
  M_s_shows : Meth K A.CS "shows" A.f_s_shows
  F_b___init__ : Fun K "__init__" "Barred.__init__" s_b___init__ A.f_b___init__ A.d_b___init__
  F_b___eq__ : Fun K "__eq__" "Barred.__eq__" s_b___eq__ A.f_b___eq__ A.d_b___eq__
  F_b_shows : FunD K "shows" "Barred.shows" (defArgs s_b_shows) (defBody s_b_shows) (defScope s_b_shows) [] [("arms", V.int 2)] A.f_b_shows A.d_b_shows
  M_b_shows : Meth K A.CB "shows" A.f_b_shows
  F_stand : FunD K "stand" "stand" (defArgs s_stand) (defBody s_stand) (defScope s_stand) [] [("arms", V.int 2)] A.f_stand A.d_stand
  m_stand : mg "stand" = some (.ref A.f_stand)
  F_tree_of_standing : Fun K "tree_of_standing" "tree_of_standing" s_tree_of_standing A.f_tree_of_standing A.d_tree_of_standing
  m_tree_of_standing : mg "tree_of_standing" = some (.ref A.f_tree_of_standing)
  F_places_above : Fun K "places_above" "places_above" s_places_above A.f_places_above A.d_places_above
  m_places_above : mg "places_above" = some (.ref A.f_places_above)
  F_places_below : Fun K "places_below" "places_below" s_places_below A.f_places_below A.d_places_below
  m_places_below : mg "places_below" = some (.ref A.f_places_below)
  F_are_among : Fun K "are_among" "are_among" s_are_among A.f_are_among A.d_are_among
  m_are_among : mg "are_among" = some (.ref A.f_are_among)
  F_row_by_order : Fun K "row_by_order" "row_by_order" s_row_by_order A.f_row_by_order A.d_row_by_order
  m_row_by_order : mg "row_by_order" = some (.ref A.f_row_by_order)
  F__law_number : Fun K "_law_number" "_law_number" s__law_number A.f__law_number A.d__law_number
  m__law_number : mg "_law_number" = some (.ref A.f__law_number)
  F__law_above : Fun K "_law_above" "_law_above" s__law_above A.f__law_above A.d__law_above
  m__law_above : mg "_law_above" = some (.ref A.f__law_above)
  F__law_below : Fun K "_law_below" "_law_below" s__law_below A.f__law_below A.d__law_below
  m__law_below : mg "_law_below" = some (.ref A.f__law_below)
  F__law_is_full : Fun K "_law_is_full" "_law_is_full" s__law_is_full A.f__law_is_full A.d__law_is_full
  m__law_is_full : mg "_law_is_full" = some (.ref A.f__law_is_full)
  F__law_is_part : Fun K "_law_is_part" "_law_is_part" s__law_is_part A.f__law_is_part A.d__law_is_part
  m__law_is_part : mg "_law_is_part" = some (.ref A.f__law_is_part)
  F__law_rows : Fun K "_law_rows" "_law_rows" s__law_rows A.f__law_rows A.d__law_rows
  m__law_rows : mg "_law_rows" = some (.ref A.f__law_rows)
  F__law_choices : Fun K "_law_choices" "_law_choices" s__law_choices A.f__law_choices A.d__law_choices
  m__law_choices : mg "_law_choices" = some (.ref A.f__law_choices)
  F__law_parts_right : Fun K "_law_parts_right" "_law_parts_right" s__law_parts_right A.f__law_parts_right A.d__law_parts_right
  m__law_parts_right : mg "_law_parts_right" = some (.ref A.f__law_parts_right)
  F_law : Fun K "law" "law" s_law A.f_law A.d_law
  m_law : mg "law" = some (.ref A.f_law)
  c_MOST_ARMS : mg "MOST_ARMS" = some (.int 4 0) ∨ ∃ t, mg "MOST_ARMS" = some (.int 4 t)
  c_MOST_PLACES : mg "MOST_PLACES" = some (.int 12 0) ∨ ∃ t, mg "MOST_PLACES" = some (.int 12 t)
  c_GREATEST_KEY : mg "GREATEST_KEY" = some (.int 1000000000 0) ∨ ∃ t, mg "GREATEST_KEY" = some (.int 1000000000 t)
  g_isinstance : mg "isinstance" = none
  g_int : mg "int" = none
  g_bool : mg "bool" = none
  g_len : mg "len" = none
  g_tuple : mg "tuple" = none
  g_list : mg "list" = none
  g_range : mg "range" = none
  g_enumerate : mg "enumerate" = none
  g_iter : mg "iter" = none
  g_sum : mg "sum" = none
  g_all : mg "all" = none
  g_any : mg "any" = none
  g_sorted : mg "sorted" = none
  g_set : mg "set" = none
  g_zip : mg "zip" = none
  cT : Cls K A.C
  nMany : NoAttr K A.C "many"
  nArms : NoAttr K A.C "arms"
  nPl : NoAttr K A.C "_places"
  mC : mg "Tree" = some (.ref A.C)
  mkC : Mk K A.C A.f_t___init__
  cr : ClX.CRead K A.C (.type "type")
  cof : ClX.CMet K A.C (.type "type") "of" A.po A.f_t_of
  cTS : Cls K A.CS
  sRow : NoAttr K A.CS "row"
  mCS : mg "Stands" = some (.ref A.CS)
  mkCS : Mk K A.CS A.f_s___init__
  eqcS : EqC K A.CS A.f_s___eq__
  kaS : PySem.W.findIn K (.ref A.CS) "__class__" = some (some (.builtin "object.__class__"))
  knS : PySem.W.specialIn K (.builtin "object.__class__") "__get__" = some (some (.builtin "getset_descriptor.__get__"))
  ktkS : PySem.W.takesIn K (.builtin "object.__class__") = some true
  kmS : PySem.W.mroIn K A.CS (.type "object") = some true
  kiS_int : PySem.W.kitOne K (.type "int") (.ref A.CS) = some false
  kiS_tuple : PySem.W.kitOne K (.type "tuple") (.ref A.CS) = some false
  nfS_CB : PySem.W.notFirst K A.CS (.ref A.CB) = true
  kiS_CB : PySem.W.kitOne K (.ref A.CB) (.ref A.CS) = some false
  cTB : Cls K A.CB
  bWord : NoAttr K A.CB "word"
  bPl : NoAttr K A.CB "places"
  mCB : mg "Barred" = some (.ref A.CB)
  mkCB : Mk K A.CB A.f_b___init__
  eqcB : EqC K A.CB A.f_b___eq__
  kaB : PySem.W.findIn K (.ref A.CB) "__class__" = some (some (.builtin "object.__class__"))
  knB : PySem.W.specialIn K (.builtin "object.__class__") "__get__" = some (some (.builtin "getset_descriptor.__get__"))
  ktkB : PySem.W.takesIn K (.builtin "object.__class__") = some true
  kmB : PySem.W.mroIn K A.CB (.type "object") = some true
  kiB_int : PySem.W.kitOne K (.type "int") (.ref A.CB) = some false
  kiB_tuple : PySem.W.kitOne K (.type "tuple") (.ref A.CB) = some false
  nfB_CS : PySem.W.notFirst K A.CB (.ref A.CS) = true
  kiB_CS : PySem.W.kitOne K (.ref A.CS) (.ref A.CB) = some false
section
variable {P : Program} {w : World} {K : PySem.W.Frag} {mg : Str → Option Value} {base : Heap} {A : Ad}
theorem cst {x : Str} {n : Int} (h : mg x = some (.int n 0) ∨ ∃ t, mg x = some (.int n t)) : ∃ t, mg x = some (.int n t) := h.elim (fun e => ⟨0, e⟩) id

/-- True just for ints -/
def spIs (K : PySem.W.Frag) : Sp := fun vs H Q _ => ∃ x : V, vs = [x] ∧
  ((∃ i, x = .int i ∧ Q (.bl true) H) ∨ (∃ n b1 b2, TyX K H x (.type n) ∧ kitB n "int" = some b1 ∧ kitB n "bool" = some b2 ∧ (b1 && !b2) = false ∧ Q (.bl false) H))
theorem ok_is (T : Tx K mg A) : FnOk P w K mg base CX0 1 A.f_is_integer A.d_is_integer ["thing"] (spIs K) := by
  refine T.F_is_integer.ok sc_is_integer (fun vs H Q E h => ?_) (fun cdv B outer s H vs Q E hr h => ?_)
  · obtain ⟨x, rfl, _⟩ := h
    rfl
  · obtain ⟨x, rfl, h⟩ := h
    refine ⟨_, pss_one (ps_ret (pe_and (pe_callB call_isi (by rfl) T.g_isinstance (by decide +kernel) (pa_cons (pv 0) (pa_cons (pe_bltn (v := .ty "int") (by rfl) T.g_int (by decide +kernel) rfl) pa_nil)))
      (pe_one (pe_not (pe_callB call_isi (by rfl) T.g_isinstance (by decide +kernel) (pa_cons (pv 0) (pa_cons (pe_bltn (v := .ty "bool") (by rfl) T.g_bool (by decide +kernel) rfl) pa_nil))))))), ?_⟩
    rcases h with ⟨i, rfl, q⟩ | ⟨n, b1, b2, ty, k1, k2, hb, q⟩
    · refine ⟨_, rfl, _, _, .type "int", .type "int", true, rfl, .ty "int", .base (.int i), kit_ty (by decide +kernel), true, rfl, iteT ?_⟩
      exact ⟨_, rfl, _, _, .type "int", .type "bool", false, rfl, .ty "bool", .base (.int i), kit_ty (by decide +kernel), false, rfl, q⟩
    · refine ⟨_, rfl, _, _, .type n, .type "int", b1, rfl, .ty "int", ty, kit_ty k1, b1, rfl, ?_⟩
      cases b1 with
      | false => exact iteF q
      | true =>
        cases b2 with
        | false => cases hb
        | true => exact iteT ⟨_, rfl, _, _, .type n, .type "bool", true, rfl, .ty "bool", ty, kit_ty k2, true, rfl, q⟩
theorem b_is (T : Tx K mg A) : L2.Binds K A.d_is_integer ["thing"] [] := T.F_is_integer.binds fun _ _ _ _ _ _ us hl => match us, hl with | [_], _ => rfl
/-- True just for ints within; other things by their class -/
def spII (K : PySem.W.Frag) : Sp := fun vs H Q _ => ∃ (x : V) (a b : Int), vs = [x, .int a, .int b] ∧
  ((∃ i, x = .int i ∧ Q (.bl (decide (a ≤ i ∧ i ≤ b))) H) ∨ (∃ n b1 b2, TyX K H x (.type n) ∧ kitB n "int" = some b1 ∧ kitB n "bool" = some b2 ∧ (b1 && !b2) = false ∧ Q (.bl false) H))
theorem ok_ii (T : Tx K mg A) : FnOk P w K mg base CX0 2 A.f_is_integer_from A.d_is_integer_from ["thing", "least", "greatest"] (spII K) := by
  refine T.F_is_integer_from.ok sc_is_integer_from (fun vs H Q E h => ?_) (fun cdv B outer s H vs Q E hr h => ?_)
  · obtain ⟨x, a, b, rfl, _⟩ := h
    rfl
  · obtain ⟨x, a, b, rfl, h⟩ := h
    refine ⟨_, pss_one (ps_ret (pe_and (pe_call (ok_is T) hr (by rfl) T.m_is_integer T.F_is_integer.kp (b_is T) .nil pass0 (pa_cons (pv 0) pa_nil))
        (pe_one (pe_chain op_le op_le (pv 1) (pv 0) (pv 2))))), ?_⟩
    rcases h with ⟨i, rfl, q⟩ | h
    · refine ⟨_, rfl, _, rfl, .inl ⟨i, rfl, true, rfl, iteT ?_⟩⟩
      refine ⟨_, rfl, _, rfl, _, _, rfl, rfl, _, rfl, ?_⟩
      by_cases h1 : a ≤ i
      · rw [decide_eq_true h1]
        refine iteT ⟨_, rfl, _, _, rfl, rfl, ?_⟩
        have e : decide (a ≤ i ∧ i ≤ b) = decide (i ≤ b) := by simp [h1]
        rw [e] at q
        exact q
      · rw [decide_eq_false h1]
        have e : decide (a ≤ i ∧ i ≤ b) = false := by simp [h1]
        rw [e] at q
        exact iteF q
    · obtain ⟨n, b1, b2, ty, k1, k2, hb, q⟩ := h
      exact ⟨_, rfl, _, rfl, .inr ⟨n, b1, b2, ty, k1, k2, hb, false, rfl, iteF q⟩⟩
theorem b_ii (T : Tx K mg A) : L2.Binds K A.d_is_integer_from ["thing", "least", "greatest"] [] := T.F_is_integer_from.binds fun _ _ _ _ _ _ us hl => match us, hl with | [_, _, _], _ => rfl

/-- is_key of an int -/
def spKey : Sp := fun vs H Q _ => ∃ i : Int, vs = [.int i] ∧ Q (.bl (decide (-1000000000 ≤ i ∧ i ≤ 1000000000))) H
theorem ok_key (T : Tx K mg A) : FnOk P w K mg base CX0 3 A.f_is_key A.d_is_key ["thing"] spKey := by
  refine T.F_is_key.ok sc_is_key (fun vs H Q E h => ?_) (fun cdv B outer s H vs Q E hr h => ?_)
  · obtain ⟨i, rfl, _⟩ := h
    rfl
  · obtain ⟨i, rfl, q⟩ := h
    obtain ⟨t, hg⟩ := cst T.c_GREATEST_KEY
    refine ⟨_, pss_one (ps_ret (pe_call (ok_ii T) hr (by rfl) T.m_is_integer_from T.F_is_integer_from.kp (b_ii T) .nil pass0
      (pa_cons (pv 0) (pa_cons (pe_un un_neg (pe_glob (by rfl) hg (relI _ _))) (pa_cons (pe_glob (by rfl) hg (relI _ _)) pa_nil))))), ?_⟩
    exact ⟨_, rfl, _, rfl, _, _, _, rfl, .inl ⟨i, rfl, q⟩⟩
theorem b_key (T : Tx K mg A) : L2.Binds K A.d_is_key ["thing"] [] := T.F_is_key.binds fun _ _ _ _ _ _ us hl => match us, hl with | [_], _ => rfl
def spCa : Sp := fun vs H Q _ => ∃ i : Int, vs = [.int i] ∧ (1 ≤ i ∧ i ≤ 4) ∧ Q .non H
theorem ok_ca (T : Tx K mg A) : FnOk P w K mg base CX0 3 A.f_check_arms A.d_check_arms ["arms"] spCa := by
  refine T.F_check_arms.ok sc_check_arms (fun vs H Q E h => ?_) (fun cdv B outer s H vs Q E hr h => ?_)
  · obtain ⟨i, rfl, _⟩ := h
    rfl
  · obtain ⟨i, rfl, hi, q⟩ := h
    obtain ⟨t, hg⟩ := cst T.c_MOST_ARMS
    refine ⟨_, pss_one (ps_if (pt_not (pt_val (pe_call (ok_ii T) hr (by rfl) T.m_is_integer_from T.F_is_integer_from.kp (b_ii T) .nil pass0
      (pa_cons (pv 0) (pa_cons pe_int (pa_cons (pe_glob (by rfl) hg (relI _ _)) pa_nil)))))) (pss_one ps_never) pss_nil), ?_⟩
    refine ⟨_, rfl, _, _, _, rfl, .inl ⟨i, rfl, _, rfl, ?_⟩⟩
    rw [decide_eq_true hi]
    exact iteF q
theorem b_ca (T : Tx K mg A) : L2.Binds K A.d_check_arms ["arms"] [] := T.F_check_arms.binds fun _ _ _ _ _ _ us hl => match us, hl with | [_], _ => rfl
def spCm : Sp := fun vs H Q _ => ∃ i : Int, vs = [.int i] ∧ (0 ≤ i ∧ i ≤ 12) ∧ Q .non H
theorem ok_cm (T : Tx K mg A) : FnOk P w K mg base CX0 3 A.f_check_many A.d_check_many ["many"] spCm := by
  refine T.F_check_many.ok sc_check_many (fun vs H Q E h => ?_) (fun cdv B outer s H vs Q E hr h => ?_)
  · obtain ⟨i, rfl, _⟩ := h
    rfl
  · obtain ⟨i, rfl, hi, q⟩ := h
    obtain ⟨t, hg⟩ := cst T.c_MOST_PLACES
    refine ⟨_, pss_one (ps_if (pt_not (pt_val (pe_call (ok_ii T) hr (by rfl) T.m_is_integer_from T.F_is_integer_from.kp (b_ii T) .nil pass0
      (pa_cons (pv 0) (pa_cons pe_int (pa_cons (pe_glob (by rfl) hg (relI _ _)) pa_nil)))))) (pss_one ps_never) pss_nil), ?_⟩
    refine ⟨_, rfl, _, _, _, rfl, .inl ⟨i, rfl, _, rfl, ?_⟩⟩
    rw [decide_eq_true hi]
    exact iteF q
theorem b_cm (T : Tx K mg A) : L2.Binds K A.d_check_many ["many"] [] := T.F_check_many.binds fun _ _ _ _ _ _ us hl => match us, hl with | [_], _ => rfl
def spCp : Sp := fun vs H Q _ => ∃ i n : Int, vs = [.int i, .int n] ∧ (0 ≤ i ∧ i < n) ∧ Q .non H
theorem ok_cp (T : Tx K mg A) : FnOk P w K mg base CX0 3 A.f_check_place A.d_check_place ["place", "many"] spCp := by
  refine T.F_check_place.ok sc_check_place (fun vs H Q E h => ?_) (fun cdv B outer s H vs Q E hr h => ?_)
  · obtain ⟨i, n, rfl, _⟩ := h
    rfl
  · obtain ⟨i, n, rfl, hi, q⟩ := h
    refine ⟨_, pss_one (ps_if (pt_not (pt_val (pe_call (ok_ii T) hr (by rfl) T.m_is_integer_from T.F_is_integer_from.kp (b_ii T) .nil pass0
      (pa_cons (pv 0) (pa_cons pe_int (pa_cons (pe_op op_sub (pv 1) pe_int) pa_nil)))))) (pss_one ps_never) pss_nil), ?_⟩
    refine ⟨_, rfl, _, rfl, _, _, rfl, rfl, _, _, _, rfl, .inl ⟨i, rfl, _, rfl, ?_⟩⟩
    rw [decide_eq_true (show 0 ≤ i ∧ i ≤ n - 1 by omega)]
    exact iteF q
theorem b_cp (T : Tx K mg A) : L2.Binds K A.d_check_place ["place", "many"] [] := T.F_check_place.binds fun _ _ _ _ _ _ us hl => match us, hl with | [_, _], _ => rfl
/-- a list or a tuple -/
def Sq (H : Hp) (a : Addr) (xs : List V) : Prop := H a = some (.lst xs) ∨ H a = some (.tup xs)
theorem Sq.same {H H' : Hp} {a : Addr} {xs : List V} (h : Sq H a xs) (s : Same H H') : Sq H' a xs := h.elim (fun e => .inl (s _ _ e)) fun e => .inr (s _ _ e)
theorem Sq.len {K : PySem.W.Frag} {H : Hp} {a : Addr} {xs : List V} (h : Sq H a xs) : SqL K H a xs ∨ SqT K H a xs := h.elim (fun e => .inl (SqL.of e)) fun e => .inr (SqT.of e)
/-- keys go in, a tuple of them comes out -/
def spRow (K : PySem.W.Frag) : Sp := fun vs H Q _ => ∃ (a : Addr) (ns : List Int), vs = [.ref a] ∧ Sq H a (ns.map V.int) ∧ ns.length ≤ 12 ∧ (∀ n ∈ ns, -1000000000 ≤ n ∧ n ≤ 1000000000) ∧
  ∀ H' p, Same H H' → H' p = some (.tup (ns.map V.int)) → Q (.ref p) H'
theorem ok_row (T : Tx K mg A) : FnOk P w K mg base CX0 4 A.f_row_of A.d_row_of ["row"] (spRow K) := by
  refine T.F_row_of.ok sc_row_of (fun vs H Q E h => ?_) (fun cdv B outer s H vs Q E hr h => ?_)
  · obtain ⟨a, ns, rfl, _⟩ := h
    rfl
  · obtain ⟨a, ns, rfl, ha, hl, hk, q⟩ := h
    obtain ⟨t, hg⟩ := cst T.c_MOST_PLACES
    refine ⟨_, pss_cons (ps_if (PW.pt (pw_or (pt_not (pt_val (pe_callB call_isiT (by rfl) T.g_isinstance (by decide +kernel) (pa_cons (pv 0) (pa_cons (pe_tup (pa_cons (pe_bltn (v := .ty "list") (by rfl) T.g_list (by decide +kernel) rfl) (pa_cons (pe_bltn (v := .ty "tuple") (by rfl) T.g_tuple (by decide +kernel) rfl) pa_nil))) pa_nil)))))
        (pw_or1 (pt_cmpR op_gt (pe_callB call_len_seq (by rfl) T.g_len PySem.boot_len (pa_cons (pv 0) pa_nil)) (pe_glob (by rfl) hg (relI _ _)) (nomark _))))) (pss_one ps_never) pss_nil)
      (C8.pss_cut (ps_for PassesOwn.never rfl (pi_enS (by rfl) T.g_enumerate (pa_cons (pv 0) pa_nil)) (pg_tup rfl (pgs_cons (pg_name (i := 1) sc_row_of.nd rfl (Or.inl rfl)) (pgs_cons (pg_name (i := 2) sc_row_of.nd rfl (Or.inl rfl)) pgs_nil)))
        (pss_one (ps_if (pt_not (pt_val (pe_call (ok_key T) hr (by rfl) T.m_is_key T.F_is_key.kp (b_key T) .nil pass0 (pa_cons (pv 2) pa_nil)))) (pss_one ps_never) pss_nil)))
      (pss_one (ps_ret (pe_callTy call_tuple_of (by rfl) T.g_tuple (by decide +kernel) (pa_cons (pv 0) pa_nil))))), ?_⟩
    refine ⟨_, rfl, by show 2 ≤ sizeLine; decide, fun tp htp => ?_⟩
    have ha1 : Sq (upd H tp (.tup [.ty "list", .ty "tuple"])) a (ns.map V.int) := ha.same (Same.up htp)
    have isi : ∃ c b1, TyX K (upd H tp (.tup [.ty "list", .ty "tuple"])) (.ref a) (.type c) ∧ PySem.W.kitOne K (.type c) (.type "list") = some b1 ∧ (b1 = false → PySem.W.kitOne K (.type c) (.type "tuple") = some true) := by
      rcases ha1 with h | h
      · exact ⟨"list", true, .base (.lst h), kit_ty (by decide +kernel), fun z => by cases z⟩
      · exact ⟨"tuple", false, .base (.tup h), kit_ty (by decide +kernel), fun _ => kit_ty (by decide +kernel)⟩
    obtain ⟨c, b1, ty, k1, k2⟩ := isi
    refine ⟨_, tp, _, .type c, [.type "list", .type "tuple"], true, rfl, upd_same, .cons (.ty _) (.cons (.ty _) .nil), ty, kitAny_cons k1 (fun z => kitAny_cons (k2 z) (fun z => by cases z) (fun _ => rfl)) (fun _ => rfl), true, rfl, ?_⟩
    refine iteF ⟨_, rfl, a, _, rfl, ha1.len, _, _, rfl, rfl, _, rfl, ite2 (fun z => ?_) (fun _ => ?_)⟩
    · exfalso
      rw [List.length_map] at z
      have := of_decide_eq_true z
      omega
    refine ⟨fun σ H' => ∃ z y, σ = [some (.ref a), z, y] ∧ Same H H', ?_, ?_⟩
    · rcases ha with ha | ha
      · refine ⟨_, rfl, a, _, rfl, .inl ⟨SqL.of ((Same.up htp) _ _ ha), for_it (walk_enum (xs := ns.map V.int)) (fun i σ H' => ∃ z y, σ = [some (.ref a), z, y] ∧ Same H H') ⟨none, none, rfl, Same.up htp⟩ (fun i σ H' _ ⟨_, _, _, s⟩ => SqL.of (s _ _ ha)) ?_ ?_⟩⟩
        · rintro i v σ H2 H3 hi ⟨z, y, rfl, s⟩ ⟨T', x, x2, rfl, hT, rfl, e1, e2⟩
          obtain ⟨hi', rfl⟩ := ints_at e2
          cases e1
          refine ⟨_, _, rfl, SqT.of upd_same, rfl, _, _, rfl, _, _, rfl, rfl, ?_⟩
          refine ⟨_, rfl, _, rfl, _, rfl, ?_⟩
          rw [decide_eq_true (hk _ (List.getElem_mem hi'))]
          exact iteF ⟨_, _, rfl, s.trans (Same.up hT)⟩
        · rintro σ H2 ⟨z, y, rfl, s⟩
          exact ⟨_, _, rfl, s⟩
      · refine ⟨_, rfl, a, _, rfl, .inr ⟨SqT.of ((Same.up htp) _ _ ha), for_it (walk_enumT (xs := ns.map V.int)) (fun i σ H' => ∃ z y, σ = [some (.ref a), z, y] ∧ Same H H') ⟨none, none, rfl, Same.up htp⟩ (fun i σ H' _ ⟨_, _, _, s⟩ => SqT.of (s _ _ ha)) ?_ ?_⟩⟩
        · rintro i v σ H2 H3 hi ⟨z, y, rfl, s⟩ ⟨T', x, x2, rfl, hT, rfl, e1, e2⟩
          obtain ⟨hi', rfl⟩ := ints_at e2
          cases e1
          refine ⟨_, _, rfl, SqT.of upd_same, rfl, _, _, rfl, _, _, rfl, rfl, ?_⟩
          refine ⟨_, rfl, _, rfl, _, rfl, ?_⟩
          rw [decide_eq_true (hk _ (List.getElem_mem hi'))]
          exact iteF ⟨_, _, rfl, s.trans (Same.up hT)⟩
        · rintro σ H2 ⟨z, y, rfl, s⟩
          exact ⟨_, _, rfl, s⟩
    · rintro σ H2 ⟨z, y, rfl, s⟩
      rcases ha with ha | ha
      · exact ⟨_, rfl, a, _, rfl, .inl ⟨SqL.of (s _ _ ha), fun p hp => q _ _ (s.trans (Same.up hp)) upd_same⟩⟩
      · exact ⟨_, rfl, a, _, rfl, .inr ⟨SqT.of (s _ _ ha), q _ _ s (s _ _ ha)⟩⟩
theorem b_row (T : Tx K mg A) : L2.Binds K A.d_row_of ["row"] [] := T.F_row_of.binds fun _ _ _ _ _ _ us hl => match us, hl with | [_], _ => rfl

end

end Tw

set_option Elab.async false
set_option linter.all false
set_option maxRecDepth 100000
set_option maxHeartbeats 2000000
namespace Tw
open PySem PySem.Spec PyProof.Rows L2
section
variable {P : Program} {w : World} {K : PySem.W.Frag} {mg : Str → Option Value} {base : Heap} {A : Ad}
/-! the tree -/
/-- the places of a tree -/
def pl (n : Nat) : List V := (List.range n).map fun i => V.int (i : Nat)
theorem rg_pl (n : Nat) : rgV 0 (n : Int) = pl n := by
  unfold rgV pl
  rw [show ((n : Int) - 0).toNat = n by omega]
  exact congrArg (fun f => (List.range n).map f) (funext fun i => by rw [Int.zero_add])
theorem n1 : ¬ (("many" : Str) = "arms") := by decide +kernel
theorem n2 : ¬ (("many" : Str) = "_places") := by decide +kernel
theorem n3 : ¬ (("arms" : Str) = "_places") := by decide +kernel
/-- its attributes -/
def tf (n w t : Nat) : List (Str × V) := putF "_places" (.ref t) (putF "arms" (.int w) (putF "many" (.int n) []))
theorem tf_eq (n w t : Nat) : tf n w t = ([("many", V.int n), ("arms", V.int w), ("_places", V.ref t)] : List (Str × V)) := by
  unfold tf
  simp only [putF, n1, n2, n3, if_false]
theorem tf_many (n w t : Nat) : (tf n w t).lookup ("many" : Str) = some (.int n) := by
  unfold tf
  rw [lookup_putF, if_neg n2, lookup_putF, if_neg n1, lookup_putF, if_pos rfl]
theorem tf_arms (n w t : Nat) : (tf n w t).lookup ("arms" : Str) = some (.int w) := by
  unfold tf
  rw [lookup_putF, if_neg n3, lookup_putF, if_pos rfl]
theorem tf_pl (n w t : Nat) : (tf n w t).lookup ("_places" : Str) = some (.ref t) := by
  unfold tf
  rw [lookup_putF, if_pos rfl]
theorem tf_no (n w t : Nat) {m : Str} (h1 : ¬ m = "many") (h2 : ¬ m = "arms") (h3 : ¬ m = "_places") : (tf n w t).lookup m = none := by
  unfold tf
  rw [lookup_putF, if_neg h3, lookup_putF, if_neg h2, lookup_putF, if_neg h1]
  rfl
/-- a tree of n places and w arms stands at p -/
structure TreeAt (C : Addr) (H : Hp) (p n w : Nat) : Prop where
  ob : ∃ dx t, H p = some (.ins C dx (tf n w t)) ∧ H t = some (.tup (pl n))
  hn : n ≤ 12
  hw : 1 ≤ w ∧ w ≤ 4
theorem TreeAt.same {C : Addr} {H H' : Hp} {p n w : Nat} (h : TreeAt C H p n w) (s : Same H H') : TreeAt C H' p n w :=
  ⟨let ⟨dx, t, a, b⟩ := h.ob; ⟨dx, t, s _ _ a, s _ _ b⟩, h.hn, h.hw⟩

def spInit (C : Addr) : Sp := fun vs H Q _ => ∃ (p dx n w : Nat), vs = [.ref p, .int n, .int w] ∧ n ≤ 12 ∧ (1 ≤ w ∧ w ≤ 4) ∧ H p = some (.ins C dx []) ∧
  ∀ (H' : Hp), (∀ b o, H b = some o → b ≠ p → H' b = some o) → TreeAt C H' p n w → Q .non H'
theorem ok_init (T : Tx K mg A) : FnOk P w K mg base CX0 4 A.f_t___init__ A.d_t___init__ ["self", "many", "arms"] (spInit A.C) := by
  refine T.F_t___init__.ok sc_t___init__ (fun vs H Q E h => ?_) (fun cdv B outer s H vs Q E hr h => ?_)
  · obtain ⟨p, dx, n, w, rfl, _⟩ := h
    rfl
  · obtain ⟨p, dx, n, w, rfl, hn, hw, hp, q⟩ := h
    refine ⟨_, PSs.nox (pss_cons (ps_expr (pe_call (ok_ca T) hr (by rfl) T.m_check_arms T.F_check_arms.kp (b_ca T) .nil pass0 (pa_cons (pv 2) pa_nil)))
      (pss_cons (ps_expr (pe_call (ok_cm T) hr (by rfl) T.m_check_many T.F_check_many.kp (b_cm T) .nil pass0 (pa_cons (pv 1) pa_nil)))
      (pss_cons (ps_fld (pv 0) (pv 1) rfl) (pss_cons (ps_fld (pv 0) (pv 2) rfl)
      (pss_one (ps_fld (pv 0) (pe_tupRg rfl (by rfl) T.g_tuple (prg_1 (by rfl) T.g_range (pv 1))) rfl)))))), ?_⟩
    refine ⟨_, rfl, _, rfl, ⟨by omega, by omega⟩, _, rfl, _, rfl, ⟨by omega, by omega⟩, ?_⟩
    refine ⟨_, rfl, _, rfl, p, A.C, dx, _, rfl, hp, T.cT, T.nMany, (by show 0 < 1000; decide), ?_⟩
    refine ⟨_, rfl, _, rfl, p, A.C, dx, _, rfl, upd_same, T.cT, T.nArms, (by show 1 < 1000; decide), ?_⟩
    refine ⟨_, rfl, _, rfl, RgOk.of_le (by omega) (by omega) (by omega) (by omega), fun t ht => ?_⟩
    have npt : p ≠ t := fun z => by
      rw [z, upd_same] at ht
      cases ht
    refine ⟨_, rfl, p, A.C, dx, _, rfl, Eq.trans (upd_ne npt) upd_same, T.cT, T.nPl, (by simp only [putF, n1, if_false]; show 2 < 1000; decide), ?_⟩
    refine q _ (fun b o e hb => ?_) ⟨⟨dx, t, upd_same, ?_⟩, hn, hw⟩
    · have nbt : b ≠ t := ne_of_none (by rw [upd_ne hb, upd_ne hb]; exact e) ht
      rw [upd_ne hb, upd_ne nbt, upd_ne hb, upd_ne hb]
      exact e
    · rw [upd_ne npt.symm, upd_same, rg_pl]

theorem kb_init (T : Tx K mg A) : ∃ mv : List Value, KBn K A.d_t___init__ ["self", "many", "arms"] 2 ["arms"] (fun us ws => us ++ (mv ++ ws)) (fun vs zs => vs ++ zs) := by
  obtain ⟨mv, h⟩ := T.F_t___init__.kbinds0 (ps := ["self", "many", "arms"]) 2 ["arms"] [] (fun us mv ws => us ++ (mv ++ ws)) (by simp) (by simp) (fun r1 r2 r3 => r1.append (r2.append r3))
    (fun D doc pm an cdv ct us mv ws h1 h2 h3 => by
      match us, mv, ws, h1, h2, h3 with
      | [a, b], [], [c], _, _, _ => rfl)
  exact ⟨mv, h⟩
theorem bd_init (T : Tx K mg A) : ∃ ds, Vals [V.int 2] ds ∧ L2.Binds K A.d_t___init__ ["self", "many", "arms"] ds := by
  refine T.F_t___init__.binds0 2 (by simp) rfl (fun D doc pm an cdv ct us ks h1 h2 => ?_)
  match us, ks, h1, h2 with
  | [a, b], [c], _, _ => exact ⟨_, _, _, _, _, _, rfl, rfl, rfl⟩
def spOf (K : PySem.W.Frag) (C : Addr) : Sp := fun vs H Q _ => ∃ (a w : Nat) (ns : List Int), vs = [.ref C, .ref a, .int w] ∧ (1 ≤ w ∧ w ≤ 4) ∧ Sq H a (ns.map V.int) ∧ ns.length ≤ 12 ∧ (∀ n ∈ ns, -1000000000 ≤ n ∧ n ≤ 1000000000) ∧
  ∀ (H' : Hp) p, Same H H' → H p = none → TreeAt C H' p ns.length w → Q (.ref p) H'
theorem ok_of (T : Tx K mg A) : FnOk P w K mg base CX0 6 A.f_t_of A.d_t_of ["cls", "row", "arms"] (spOf K A.C) := by
  obtain ⟨mv, kb⟩ := kb_init T
  refine T.F_t_of.ok sc_t_of (fun vs H Q E h => ?_) (fun cdv B outer s H vs Q E hr h => ?_)
  · obtain ⟨a, w, ns, rfl, _⟩ := h
    rfl
  · obtain ⟨a, w, ns, rfl, hw, ha, hl, hk, q⟩ := h
    refine ⟨_, PSs.nox (pss_cons (ps_expr (pe_call (ok_ca T) (hr.mono (by decide)) (by rfl) T.m_check_arms T.F_check_arms.kp (b_ca T) .nil pass0 (pa_cons (pv 2) pa_nil)))
      (pss_one (ps_ret (pe_makeLK (i := 0) T.mkC (ok_init T) hr kb pass0 (pa_cons (pe_callB call_len_seq (by rfl) T.g_len PySem.boot_len (pa_cons (pe_call (ok_row T) (hr.mono (by decide)) (by rfl) T.m_row_of T.F_row_of.kp (b_row T) .nil pass0 (pa_cons (pv 1) pa_nil)) pa_nil)) pa_nil)
        (pk_cons (pv 2) pk_nil) rfl (Or.inl rfl))))), ?_⟩
    refine ⟨_, rfl, _, rfl, ⟨by omega, by omega⟩, rfl, _, rfl, a, ns, rfl, ha, hl, hk, fun H1 p s1 hp => ?_⟩
    refine ⟨p, _, rfl, .inr (SqT.of hp), _, rfl, rfl, rfl, fun x dx nx ndx nex => ?_⟩
    refine ⟨x, dx, ns.length, w, by rw [List.length_map]; rfl, hl, hw, upd_same, fun H2 k2 t2 => ⟨rfl, q H2 x (fun b o e => k2 b o ?_ (ne_of_none (s1 _ _ e) nx)) (s1.free nx) t2⟩⟩
    rw [upd_ne (ne_of_none (s1 _ _ e) nx), upd_ne (ne_of_none (s1 _ _ e) ndx)]
    exact s1 _ _ e


theorem b_len (T : Tx K mg A) : L2.Binds K A.d_t___len__ ["self"] [] := T.F_t___len__.binds fun _ _ _ _ _ _ us hl => match us, hl with | [_], _ => rfl
theorem b_iter (T : Tx K mg A) : L2.Binds K A.d_t___iter__ ["self"] [] := T.F_t___iter__.binds fun _ _ _ _ _ _ us hl => match us, hl with | [_], _ => rfl
theorem b_gi (T : Tx K mg A) : L2.Binds K A.d_t___getitem__ ["self", "place"] [] := T.F_t___getitem__.binds fun _ _ _ _ _ _ us hl => match us, hl with | [_, _], _ => rfl
theorem b_par (T : Tx K mg A) : L2.Binds K A.d_t_parent ["self", "place"] [] := T.F_t_parent.binds fun _ _ _ _ _ _ us hl => match us, hl with | [_, _], _ => rfl
theorem b_way (T : Tx K mg A) : L2.Binds K A.d_t_way_to ["self", "place"] [] := T.F_t_way_to.binds fun _ _ _ _ _ _ us hl => match us, hl with | [_, _], _ => rfl
theorem b_sub (T : Tx K mg A) : L2.Binds K A.d_t_subtree ["self", "place"] [] := T.F_t_subtree.binds fun _ _ _ _ _ _ us hl => match us, hl with | [_, _], _ => rfl

theorem pl_len (n : Nat) : (pl n).length = n := by unfold pl; rw [List.length_map, List.length_range]
def spLen (C : Addr) : Sp := fun vs H Q _ => ∃ (p n w : Nat), vs = [.ref p] ∧ TreeAt C H p n w ∧ Q (.int n) H
theorem ok_len (T : Tx K mg A) : FnOk P w K mg base CX0 2 A.f_t___len__ A.d_t___len__ ["self"] (spLen A.C) := by
  refine T.F_t___len__.ok sc_t___len__ (fun vs H Q E h => ?_) (fun cdv B outer s H vs Q E hr h => ?_)
  · obtain ⟨p, n, w, rfl, _⟩ := h
    rfl
  · obtain ⟨p, n, w, rfl, t, q⟩ := h
    obtain ⟨dx, l, h1, h2⟩ := t.ob
    refine ⟨_, pss_one (ps_ret (pe_callB call_len_seq (by rfl) T.g_len PySem.boot_len (pa_cons (pe_fld (pv 0) rfl) pa_nil))), ?_⟩
    refine ⟨_, rfl, p, A.C, dx, _, _, rfl, h1, T.cT, T.nPl, tf_pl _ _ _, l, _, rfl, .inr (SqT.of h2), ?_⟩
    rw [pl_len]
    exact q
theorem ok_iter (T : Tx K mg A) : FnIt P w K mg base 2 A.f_t___iter__ A.d_t___iter__ ["self"] (spIter K A.C "_places") := by
  refine fnIt_of T.F_t___iter__ sc_t___iter__ (fun cdv B outer s H vs Q hr h => ?_)
  obtain ⟨a, dx, fs, t, zs, rfl, ha, hf, ht, q⟩ := h
  refine ⟨_, pss_one (ps_ret (pe_callB call_iterT (by rfl) T.g_iter (by decide +kernel) (pa_cons (pe_fld (pv 0) rfl) pa_nil))), ?_⟩
  exact ⟨_, rfl, a, A.C, dx, _, _, rfl, ha, T.cT, T.nPl, hf, t, zs, rfl, ht, q⟩
/-- the children of a place, as the program cuts them -/
def kids (n w i : Nat) : List V := cutV (pl n) (some ((i : Int) * (w : Int) + 1)) (some ((i : Int) * (w : Int) + 1 + (w : Int)))
def spGi (C : Addr) : Sp := fun vs H Q _ => ∃ (p n w i : Nat), vs = [.ref p, .int i] ∧ TreeAt C H p n w ∧ i < n ∧ ∀ H' q, Same H H' → H' q = some (.tup (kids n w i)) → Q (.ref q) H'
theorem ok_gi (T : Tx K mg A) : FnOk P w K mg base CX0 4 A.f_t___getitem__ A.d_t___getitem__ ["self", "place"] (spGi A.C) := by
  refine T.F_t___getitem__.ok sc_t___getitem__ (fun vs H Q E h => ?_) (fun cdv B outer s H vs Q E hr h => ?_)
  · obtain ⟨p, n, w, i, rfl, _⟩ := h
    rfl
  · obtain ⟨p, n, w, i, rfl, t, hi, q⟩ := h
    obtain ⟨dx, l, h1, h2⟩ := t.ob
    refine ⟨_, pss_cons (ps_expr (pe_call (ok_cp T) hr (by rfl) T.m_check_place T.F_check_place.kp (b_cp T) .nil pass0 (pa_cons (pv 1) (pa_cons (pe_fld (pv 0) rfl) pa_nil))))
      (pss_cons (ps_set (i := 2) sc_t___getitem__.nd rfl (Or.inl rfl) (pe_op op_add (pe_op op_mul (pv 1) (pe_fld (pv 0) rfl)) pe_int))
      (pss_one (ps_ret (pe_slice sl_tup (pe_fld (pv 0) rfl) (po_some (pv 2)) (po_some (pe_op op_add (pv 2) (pe_fld (pv 0) rfl))))))), ?_⟩
    refine ⟨_, rfl, _, rfl, p, A.C, dx, _, _, rfl, h1, T.cT, T.nMany, tf_many _ _ _, _, _, rfl, ⟨by omega, by omega⟩, ?_⟩
    refine ⟨_, rfl, _, rfl, p, A.C, dx, _, _, rfl, h1, T.cT, T.nArms, tf_arms _ _ _, _, _, rfl, rfl, .inl ⟨by have := t.hn; omega, by have := t.hn; omega⟩, _, _, rfl, rfl, ?_⟩
    refine ⟨_, rfl, p, A.C, dx, _, _, rfl, h1, T.cT, T.nPl, tf_pl _ _ _, ?_⟩
    refine ⟨_, rfl, _, rfl, _, rfl, _, rfl, p, A.C, dx, _, _, rfl, h1, T.cT, T.nArms, tf_arms _ _ _, _, _, rfl, rfl, _, rfl, ?_⟩
    refine ⟨l, pl n, rfl, SqT.of h2, fun z => ?_, fun r hr0 => q _ r (Same.up hr0) upd_same⟩
    have z1 := z.1
    rw [pl_len, show ((i : Int) * (w : Int) + 1) = ((i * w + 1 : Nat) : Int) by push_cast; rfl, HT.sIx_nat] at z1
    omega

end
end Tw

set_option Elab.async false
set_option linter.all false
set_option maxRecDepth 100000
set_option maxHeartbeats 2000000
namespace Tw
open PySem PySem.Spec PyProof.Rows L2
section
variable {P : Program} {w : World} {K : PySem.W.Frag} {mg : Str → Option Value} {base : Heap} {A : Ad}

/-! ways -/
def upF : Nat → Nat → Nat → List Nat
  | 0, _, p => [p]
  | k + 1, w, p => if p = 0 then [0] else p :: upF k w ((p - 1) / w)
def upL (w p : Nat) : List Nat := upF 13 w p
def wayL (w p : Nat) : List Nat := (upL w p).reverse
def vi (l : List Nat) : List V := l.map fun i => V.int (i : Nat)
theorem up_eq : ∀ w, w < 5 → ∀ p, p < 13 → 1 ≤ w → upL w p = if p = 0 then [0] else p :: upL w ((p - 1) / w) := by decide +kernel
theorem up_len : ∀ w, w < 5 → ∀ p, p < 13 → 1 ≤ w → (upL w p).length ≤ 13 := by decide +kernel
theorem vi_len (l : List Nat) : (vi l).length = l.length := by unfold vi; rw [List.length_map]
theorem vi_app (a b : List Nat) : vi (a ++ b) = vi a ++ vi b := by unfold vi; rw [List.map_append]
theorem vi_rev (a : List Nat) : (vi a).reverse = vi a.reverse := by unfold vi; rw [List.map_reverse]
/-- the parent as the program says it -/
def parV (w p : Nat) : V := if p = 0 then .non else .int ((p - 1) / w : Nat)
def spPar (C : Addr) : Sp := fun vs H Q _ => ∃ (p n w i : Nat), vs = [.ref p, .int i] ∧ TreeAt C H p n w ∧ i < n ∧ Q (parV w i) H
theorem ok_par (T : Tx K mg A) : FnOk P w K mg base CX0 4 A.f_t_parent A.d_t_parent ["self", "place"] (spPar A.C) := by
  refine T.F_t_parent.ok sc_t_parent (fun vs H Q E h => ?_) (fun cdv B outer s H vs Q E hr h => ?_)
  · obtain ⟨p, n, w, i, rfl, _⟩ := h
    rfl
  · obtain ⟨p, n, w, i, rfl, t, hi, q⟩ := h
    obtain ⟨dx, l, h1, h2⟩ := t.ob
    refine ⟨_, pss_cons (ps_expr (pe_call (ok_cp T) hr (by rfl) T.m_check_place T.F_check_place.kp (b_cp T) .nil pass0 (pa_cons (pv 1) (pa_cons (pe_fld (pv 0) rfl) pa_nil))))
      (pss_cons (ps_if (pt_cmpR op_eq (pv 1) pe_int (nomark _)) (pss_one (ps_ret pe_non)) pss_nil)
      (pss_one (ps_ret (pe_op op_fdivN (pe_op op_sub (pv 1) pe_int) (pe_fld (pv 0) rfl))))), ?_⟩
    refine ⟨_, rfl, _, rfl, p, A.C, dx, _, _, rfl, h1, T.cT, T.nMany, tf_many _ _ _, _, _, rfl, ⟨by omega, by omega⟩, ?_⟩
    refine ⟨_, rfl, rfl, _, rfl, ?_⟩
    by_cases h0 : i = 0
    · rw [decide_eq_true (show V.int (i : Nat) = V.int 0 by rw [h0]; rfl)]
      refine iteT ?_
      unfold parV at q
      rw [if_pos h0] at q
      exact q
    · rw [decide_eq_false (show ¬ V.int (i : Nat) = V.int 0 by intro z; injection z with z; omega)]
      refine iteF ?_
      refine ⟨_, rfl, _, _, rfl, rfl, _, rfl, p, A.C, dx, _, _, rfl, h1, T.cT, T.nArms, tf_arms _ _ _, _, _, rfl, rfl, ⟨by have := t.hw; omega, by have := t.hw; omega⟩, ?_⟩
      unfold parV at q
      rw [if_neg h0] at q
      have e : Int.fdiv ((i : Int) - 1) (w : Int) = ((i - 1) / w : Nat) := by
        rw [Int.fdiv_eq_ediv_of_nonneg _ (by omega), show ((i : Int) - 1) = ((i - 1 : Nat) : Int) by omega]
        rfl
      show Q (V.int (Int.fdiv ((i : Int) - 1) (w : Int))) H
      rw [e]
      exact q
/-- a number that falls while a place goes up -/
def muV : Option (Option V) → Nat
  | some (some (V.int z)) => z.toNat + 1
  | _ => 0
def spWay (C : Addr) : Sp := fun vs H Q _ => ∃ (p n w i : Nat), vs = [.ref p, .int i] ∧ TreeAt C H p n w ∧ i < n ∧ ∀ H' q, Same H H' → H q = none → H' q = some (.tup (vi (wayL w i))) → Q (.ref q) H'
theorem ok_way (T : Tx K mg A) : FnOk P w K mg base CX0 5 A.f_t_way_to A.d_t_way_to ["self", "place"] (spWay A.C) := by
  refine T.F_t_way_to.ok sc_t_way_to (fun vs H Q E h => ?_) (fun cdv B outer s H vs Q E hr h => ?_)
  · obtain ⟨p, n, w, i, rfl, _⟩ := h
    rfl
  · obtain ⟨p, n, w, i, rfl, t, hi, q⟩ := h
    refine ⟨_, pss_cons (ps_set (i := 2) sc_t_way_to.nd rfl (Or.inl rfl) (pe_lst (pa_cons (pv 1) pa_nil)))
      (pss_cons (ps_set (i := 3) sc_t_way_to.nd rfl (Or.inl rfl) (pe_meth (pv 0) T.cT T.M_t_parent (ok_par T) hr (b_par T) .nil pass0 (pa_cons (pv 1) pa_nil)))
      (pss_cons (ps_while PassesOwn.never (pt_cmpR op_notN (pv 3) pe_non (nomark _))
        (pss_cons (ps_expr (pe_bm PySem.F.plainAttrs_list PySem.F.slot_list_append PySem.F.type_list_append mt_append (pv 2) (pa_cons (pv 3) pa_nil)))
        (pss_one (ps_set (i := 3) sc_t_way_to.nd rfl (Or.inl rfl) (pe_meth (pv 0) T.cT T.M_t_parent (ok_par T) hr (b_par T) .nil pass0 (pa_cons (pv 3) pa_nil))))))
      (pss_one (ps_ret (pe_callTy call_tuple_of (by rfl) T.g_tuple (by decide +kernel) (pa_cons (pe_revL (pv 2)) pa_nil)))))), ?_⟩
    obtain ⟨dx, l, h1, h2⟩ := t.ob
    have noP : (tf n w l).lookup ("parent" : Str) = none := tf_no _ _ _ (by decide +kernel) (by decide +kernel) (by decide +kernel)
    refine ⟨_, rfl, by show 1 ≤ sizeLine; decide, fun d hd => ?_⟩
    have s1 : Same H (upd H d (.lst [V.int (i : Nat)])) := Same.up hd
    refine ⟨_, rfl, p, dx, _, rfl, s1 _ _ h1, noP, _, rfl, p, n, w, i, rfl, t.same s1, hi, ?_⟩
    refine while_by (fun σ H' => ∃ (c : Nat) (acc : List Nat), σ = [some (.ref p), some (.int i), some (.ref d), some (parV w c)] ∧ c < n ∧ Acc H d (vi (acc ++ [c])) H' ∧ acc ++ upL w c = upL w i ∧ acc.length ≤ 12)
      (fun σ _ => muV σ[3]?) ⟨i, [], rfl, hi, ⟨s1, hd, upd_same⟩, rfl, Nat.zero_le _⟩ ?_ ?_
    · rintro σ H' ⟨c, acc, rfl, hc, ac, ea, hl⟩
      have hn := t.hn
      have hw := t.hw
      have eu := up_eq w (by omega) c (by omega) hw.1
      refine ⟨_, rfl, rfl, _, rfl, ?_⟩
      by_cases h0 : c = 0
      · have ev : parV w c = V.non := by unfold parV; rw [if_pos h0]
        rw [ev, decide_eq_true (rfl : V.non = V.non)]
        refine iteF ?_
        rw [if_pos h0] at eu
        refine ⟨_, rfl, d, _, rfl, SqL.of ac.a, fun r hr0 => ⟨r, _, rfl, .inl ⟨SqL.of upd_same, fun u hu => q _ u (ac.s.trans ((Same.up hr0).trans (Same.up hu))) (ac.s.free ((Same.up hr0).free hu)) ?_⟩⟩⟩
        unfold wayL
        rw [upd_same, vi_rev, ← ea, eu, h0]
      · have ev : parV w c = V.int ((c - 1) / w : Nat) := by unfold parV; rw [if_neg h0]
        rw [ev, decide_eq_false (show ¬ V.int ((c - 1) / w : Nat) = V.non from fun z => nomatch z)]
        refine iteT ?_
        rw [if_neg h0] at eu
        have hlt : (c - 1) / w < c := Nat.lt_of_le_of_lt (Nat.div_le_self _ _) (by omega)
        have hL : acc.length + 1 + (upL w ((c - 1) / w)).length = (upL w i).length := by
          rw [← ea, eu, List.length_append, List.length_cons]
          omega
        have hL2 := up_len w (by omega) i (by omega) hw.1
        have hL3 := up_eq w (by omega) ((c - 1) / w) (by omega) hw.1
        have hL4 : 1 ≤ (upL w ((c - 1) / w)).length := by
          rw [hL3]
          split
          · exact Nat.le_refl _
          · rw [List.length_cons]; omega
        refine ⟨_, rfl, .inl ⟨rfl, _, SqL.of ac.a⟩, _, rfl, d, _, _, rfl, rfl, ac.a, small1000 (by rw [vi_len, List.length_append, List.length_singleton]; omega), ?_⟩
        have e2 : vi (acc ++ [c]) ++ [V.int ((c - 1) / w : Nat)] = vi (acc ++ [c] ++ [(c - 1) / w]) := by rw [vi_app (acc ++ [c])]; rfl
        rw [e2]
        have ac2 : Acc H d (vi (acc ++ [c] ++ [(c - 1) / w])) (upd H' d (.lst (vi (acc ++ [c] ++ [(c - 1) / w])))) := ac.push
        refine ⟨_, rfl, p, dx, _, rfl, ac2.s _ _ h1, noP, _, rfl, p, n, w, (c - 1) / w, rfl, t.same ac2.s, by omega, ?_⟩
        refine ⟨⟨(c - 1) / w, acc ++ [c], rfl, by omega, ac2, ?_, by rw [List.length_append, List.length_singleton]; omega⟩, ?_⟩
        · rw [← ea, eu, List.append_assoc]
          rfl
        · show muV (some (some (parV w ((c - 1) / w)))) < muV (some (some (V.int ((c - 1) / w : Nat))))
          unfold parV
          split
          · show 0 < _
            exact Nat.succ_pos _
          · rename_i h9
            show (((((c - 1) / w - 1) / w : Nat) : Int)).toNat + 1 < ((((c - 1) / w : Nat) : Int)).toNat + 1
            rw [Int.toNat_natCast, Int.toNat_natCast]
            exact Nat.succ_lt_succ (Nat.lt_of_le_of_lt (Nat.div_le_self _ _) (Nat.sub_lt (Nat.pos_of_ne_zero h9) Nat.one_pos))
    · rintro σ' H1 Q1 Q2 mono ⟨v, hv, e1, b1, e2, z⟩
      exact ⟨v, hv, e1, b1, e2, mono _ _ z⟩

/-- the places of a subtree -/
def subL (n w i : Nat) : List Nat := (List.range n).filter fun j => decide (i ∈ wayL w j)
theorem mem_vi (i : Nat) (l : List Nat) : inV (V.int (i : Nat)) (vi l) = decide (i ∈ l) := by
  have key : ∀ j : Nat, eqV (V.int (j : Nat)) (V.int (i : Nat)) = decide (j = i) := fun j => by
    show ((j : Int) == (i : Int)) = decide (j = i)
    by_cases h : j = i
    · rw [h, decide_eq_true rfl, beq_self_eq_true]
    · rw [decide_eq_false h]
      exact beq_eq_false_iff_ne.mpr (by omega)
  unfold inV vi
  induction l with
  | nil => rfl
  | cons a l ih =>
    rw [List.map_cons, List.any_cons, ih, key]
    by_cases h : a = i
    · simp [h]
    · simp [h, Ne.symm h]
theorem vi_flat (l : List Nat) : (vi l).all flatV = true := by
  unfold vi
  rw [List.all_map]
  exact List.all_eq_true.mpr fun _ _ => rfl
theorem sub_pick (n w i : Nat) : vi (subL n w i) = (List.range n).filterMap fun j => if i ∈ wayL w j then some (V.int (j : Nat)) else none := by
  unfold vi subL
  induction List.range n with
  | nil => rfl
  | cons a l ih =>
    by_cases h : i ∈ wayL w a
    · rw [List.filter_cons_of_pos (by simp [h]), List.map_cons, ih, List.filterMap_cons, if_pos h]
    · rw [List.filter_cons_of_neg (by simp [h]), ih, List.filterMap_cons, if_neg h]
def spSub (C : Addr) : Sp := fun vs H Q _ => ∃ (p n w i : Nat), vs = [.ref p, .int i] ∧ TreeAt C H p n w ∧ i < n ∧ ∀ H' q, Same H H' → H q = none → H' q = some (.tup (vi (subL n w i))) → Q (.ref q) H'
theorem ok_sub (T : Tx K mg A) : FnOk P w K mg base CX0 6 A.f_t_subtree A.d_t_subtree ["self", "place"] (spSub A.C) := by
  refine T.F_t_subtree.ok sc_t_subtree (fun vs H Q E h => ?_) (fun cdv B outer s H vs Q E hr h => ?_)
  · obtain ⟨p, n, w, i, rfl, _⟩ := h
    rfl
  · obtain ⟨p, n, w, i, rfl, t, hi, q⟩ := h
    obtain ⟨dx, l, h1, h2⟩ := t.ob
    have noW : (tf n w l).lookup ("way_to" : Str) = none := tf_no _ _ _ (by decide +kernel) (by decide +kernel) (by decide +kernel)
    refine ⟨_, pss_cons (ps_expr (pe_call (ok_cp T) (hr.mono (by decide)) (by rfl) T.m_check_place T.F_check_place.kp (b_cp T) .nil pass0 (pa_cons (pv 1) (pa_cons (pe_fld (pv 0) rfl) pa_nil))))
      (pss_one (ps_ret (pe_callTy call_tuple_of (by rfl) T.g_tuple (by decide +kernel) (pa_cons
        (pe_lc (own := [("below", 2)]) (g := gName 2) rfl sc_t_subtree.nd (pi_tup (pe_fld (pv 0) rfl)) (blkOk_by (own := [("below", 2)]) (N := ["self", "place", "below"]) (sc := defScope s_t_subtree) (by decide +kernel)) (fun _ _ _ _ _ => pg_name (i := 2) sc_t_subtree.nd rfl (Or.inl rfl))
          (fun _ _ _ _ _ => pts_one (pt_cmpR (r := L2.rIn K false) op_in_seq (pv 1) (pe_meth (pv 0) T.cT T.M_t_way_to (ok_way T) hr (b_way T) .nil pass0 (pa_cons (pv 2) pa_nil)) (by rfl))) (fun _ _ _ _ _ => pv 2)) pa_nil)))), ?_⟩
    refine ⟨_, rfl, _, rfl, p, A.C, dx, _, _, rfl, h1, T.cT, T.nMany, tf_many _ _ _, _, _, rfl, ⟨by omega, by omega⟩, ?_⟩
    refine ⟨_, rfl, p, A.C, dx, _, _, rfl, h1, T.cT, T.nPl, tf_pl _ _ _, l, rfl, ⟨_, SqT.of h2⟩, fun D hD => ?_⟩
    refine lc_it (walk_tup (xs := pl n)) (PickI H D (List.range n) fun j => if i ∈ wayL w j then some (V.int (j : Nat)) else none) (pick_start hD) (fun k H' _ h => SqT.of (h.s _ _ h2)) ?_ ?_
    · rintro k x H2 H3 hk pk ⟨rfl, ex⟩
      obtain ⟨hk', rfl⟩ := map_at ex
      rw [List.getElem_range]
      rw [List.length_range] at hk'
      refine ⟨rfl, _, rfl, _, rfl, p, dx, _, rfl, pk.s _ _ h1, noW, _, rfl, p, n, w, k, rfl, t.same pk.s, hk', fun H4 r s4 r0 hr4 => ?_⟩
      refine ⟨r, _, rfl, .inr (SqT.of hr4), rfl, vi_flat _, _, rfl, ?_⟩
      show if (inV (V.int (i : Nat)) (vi (wayL w k))) = true then _ else _
      rw [mem_vi]
      by_cases hm : i ∈ wayL w k
      · rw [decide_eq_true hm]
        exact iteT ⟨_, rfl, pick_yes (by rw [List.length_range]; exact hk') (by rw [List.length_range]; have := t.hn; omega) (by rw [List.getElem_range, if_pos hm]) s4 pk⟩
      · rw [decide_eq_false hm]
        exact iteF (pick_no (by rw [List.length_range]; exact hk') (by rw [List.getElem_range, if_neg hm]) s4 pk)
    · intro H2 pk
      have ac := pick_end (by rw [pl_len, List.length_range]) pk
      refine ⟨D, _, rfl, .inl ⟨SqL.of ac.a, fun r hr0 => q _ r (ac.s.trans (Same.up hr0)) (ac.s.free hr0) ?_⟩⟩
      rw [upd_same, ← sub_pick]

theorem sub_n (n w i : Nat) : (subL n w i).length ≤ n := by
  unfold subL
  exact Nat.le_trans (List.length_filter_le _ _) (by rw [List.length_range]; exact Nat.le_refl _)
end
end Tw

set_option Elab.async false
set_option linter.all false
set_option maxRecDepth 100000
set_option maxHeartbeats 2000000
namespace Tw
open PySem PySem.Spec PyProof.Rows L2
section
variable {P : Program} {w : World} {K : PySem.W.Frag} {mg : Str → Option Value} {base : Heap} {A : Ad}

/-! the law's own defs -/
theorem ints_dp (K : PySem.W.Frag) (H : Hp) : ∀ ns : List Int, DpAll K H (ns.map V.int) (ns.map PyData.int)
  | [] => .nil
  | n :: ns => .cons (.int n) (ints_dp K H ns)
theorem emp_eqv : ∀ ns : List Int, PyData.eqv (.list (ns.map PyData.int)) (.list []) = decide (ns = [])
  | [] => by rfl
  | n :: ns => by rfl
theorem shaped_ints (ns : List Int) : SeqAt.shaped (.list (ns.map PyData.int)) = true := by
  have h1 : ∀ ms : List Int, PyData.canLayAll0 (ms.map PyData.int) = true := fun ms => by
    induction ms with
    | nil => rfl
    | cons m ms ih => rw [List.map_cons, PyData.canLayAll0, ih]; rfl
  have h2 : ∀ ms : List Int, PyData.depthAll (ms.map PyData.int) ≤ 1 := fun ms => by
    induction ms with
    | nil => simp [PyData.depthAll]
    | cons m ms ih =>
      simp only [List.map_cons, PyData.depthAll, PyData.depth]
      omega
  have h3 : PyData.depth (.list (ns.map PyData.int)) ≤ 64 := by
    have := h2 ns
    simp only [PyData.depth]
    omega
  unfold SeqAt.shaped
  rw [decide_eq_true h3, Bool.and_true]
  simp only [PyData.canLay0]
  exact h1 ns
theorem cut63 (xs : List V) (h : xs.length ≤ 63) : cutV xs none (some 63) = xs := by
  unfold cutV
  rw [HT.sIx_none, show (63 : Int) = ((63 : Nat) : Int) from rfl, HT.sIx_nat, List.drop_zero, Nat.min_eq_right h, Nat.sub_zero, List.take_length]
def spNum (K : PySem.W.Frag) : Sp := fun vs H Q _ => ∃ (a : Addr) (ns : List Int) (i : Nat), vs = [.ref a, .int i] ∧ SqL K H a (ns.map V.int) ∧ ns.length ≤ 63 ∧ i < 1000000 ∧ ∀ H' r, Same H H' → Q (.int r) H'
theorem ok_num (T : Tx K mg A) : FnOk P w K mg base CX0 2 A.f__law_number A.d__law_number ["script", "index"] (spNum K) := by
  refine T.F__law_number.ok sc__law_number (fun vs H Q E h => ?_) (fun cdv B outer s H vs Q E hr h => ?_)
  · obtain ⟨a, ns, i, rfl, _⟩ := h
    rfl
  · obtain ⟨a, ns, i, rfl, ha, hl, hi, q⟩ := h
    have nd := sc__law_number.nd
    have hu := hr.units
    refine ⟨_, C8.pss_cut (ps_set (i := 2) nd rfl (Or.inl rfl) (pe_ifExp (pt_cmpR (op_neD hu) (pv 0) (pe_lst pa_nil) (nomark _)) (pe_slice sl_list (pv 0) po_none (po_some pe_int)) (pe_lst (pa_cons pe_int pa_nil))))
      (pss_cons (ps_set (i := 3) nd rfl (Or.inl rfl) (pe_op op_add
        (pe_ix ix_list (pv 2) (pe_op op_mod (pe_callTy call_int1 (by rfl) T.g_int (by decide +kernel) (pa_cons (pv 1) pa_nil)) (pe_callB call_len_seq (by rfl) T.g_len PySem.boot_len (pa_cons (pv 2) pa_nil))) (fun _ _ => rfl))
        (pe_op op_mul pe_int (pe_op op_fdivN (pv 1) (pe_callB call_len_seq (by rfl) T.g_len PySem.boot_len (pa_cons (pv 2) pa_nil))))))
      (pss_cons (ps_par (i := 4) (j := 5) rfl nd rfl rfl (by decide) rfl rfl (pa_cons (pe_op op_mod (pe_callTy call_int1 (by rfl) T.g_int (by decide +kernel) (pa_cons (pv 3) pa_nil)) pe_int)
          (pa_cons (pe_op op_mod (pe_callTy call_int1 (by rfl) T.g_int (by decide +kernel) (pa_cons (pe_op op_fdivN (pv 3) pe_int) pa_nil)) pe_int) pa_nil)) rfl)
      (pss_cons (ps_set (i := 6) nd rfl (Or.inl rfl) (pe_op op_mod (pe_callTy call_int1 (by rfl) T.g_int (by decide +kernel) (pa_cons (pe_callB (cr_sum rfl) (by rfl) T.g_sum (by decide +kernel) (pa_cons (pv 2) pa_nil)) pa_nil)) pe_int))
      (pss_cons (ps_set (i := 7) nd rfl (Or.inl rfl) (pe_op op_mod (pe_callTy call_int1 (by rfl) T.g_int (by decide +kernel) (pa_cons
          (pe_op op_add (pe_op op_add (pe_op op_mul (pe_op op_add (pv 4) (pe_op op_mul pe_int (pv 1))) pe_int) (pe_op op_mul pe_int (pv 5))) (pv 6)) pa_nil)) pe_int))
      (pss_one (ps_ret (pe_op op_add (pe_op op_mul (pe_op op_mod (pe_callTy call_int1 (by rfl) T.g_int (by decide +kernel) (pa_cons
          (pe_op op_mul (pv 7) (pe_op op_add (pe_op op_add (pv 7) (pe_op op_mul pe_int (pv 1))) pe_int)) pa_nil)) pe_int) pe_int) (pv 5)))))))), ?_⟩
    refine ⟨fun σ H1 => ∃ (c : Addr) (cs : List Int), σ = [some (.ref a), some (.int i), some (.ref c), none, none, none, none, none] ∧ Same H H1 ∧ H1 c = some (.lst (cs.map V.int)) ∧ 0 < cs.length ∧ cs.length ≤ 63, ?_, ?_⟩
    · refine ⟨_, rfl, Nat.zero_le _, fun l0 hl0 => ?_⟩
      have hs0 : Same H (upd H l0 (.lst [])) := Same.up hl0
      refine ⟨.list (ns.map PyData.int), .list [], .lst (hs0.seq ha) (ints_dp _ _ _), .lst (SqL.of upd_same) .nil, ?_, rfl, _, rfl, ?_⟩
      · exact shaped_ints _
      · rw [emp_eqv]
        by_cases e : ns = []
        · rw [decide_eq_true e]
          refine iteF ⟨by show 1 ≤ sizeLine; decide, fun l1 hl1 => ⟨l1, [5], rfl, hs0.trans (Same.up hl1), upd_same, by decide, by decide⟩⟩
        · rw [decide_eq_false e]
          refine iteT ⟨_, rfl, _, rfl, a, _, rfl, hs0.seq ha, fun l1 hl1 => ⟨l1, ns, rfl, hs0.trans (Same.up hl1), ?_, ?_, hl⟩⟩
          · rw [upd_same]
            exact congrArg (fun z => some (HO.lst z)) (cut63 _ (by rw [List.length_map]; exact hl))
          · exact List.length_pos_iff.mpr e
    · rintro σ H1 ⟨c, cs, rfl, s1, hc, h0, h63⟩
      have hq := SqL.of (K := K) hc
      have hL : ((cs.map V.int).length : Int) = (cs.length : Int) := by rw [List.length_map]
      have hm0 : 0 ≤ (i : Int) % (cs.length : Int) := Int.emod_nonneg _ (by omega)
      have hm1 : (i : Int) % (cs.length : Int) < (cs.length : Int) := Int.emod_lt_of_pos _ (by omega)
      obtain ⟨j, hj⟩ : ∃ j : Nat, (i : Int) % (cs.length : Int) = (j : Int) := ⟨_, (Int.toNat_of_nonneg hm0).symm⟩
      have hjl : j < cs.length := by omega
      have hat : atI (cs.map V.int) ((i : Int) % ((cs.map V.int).length : Int)) = some (V.int cs[j]) := by
        rw [hL, hj]
        exact atI_nat (by rw [List.getElem?_map, List.getElem?_eq_getElem hjl]; rfl)
      refine ⟨_, rfl, _, rfl, .inl ⟨_, rfl, _, rfl, c, _, rfl, .inl hq, _, _, rfl, rfl, ?_, c, _, _, _, rfl, rfl, hq, hat, _, rfl, _, rfl, c, _, rfl, .inl hq, _, _, rfl, rfl, ⟨?_, ?_⟩, _, _, rfl, rfl, .inl ⟨by decide, by decide⟩, _, _, rfl, rfl, ?_⟩⟩
      · show (0 : Int) < ((cs.map V.int).length : Int)
        omega
      · omega
      · omega
      · refine ⟨_, rfl, .inl ⟨_, rfl, _, _, rfl, rfl, by show (0 : Int) < 1000003; decide, ?_⟩⟩
        refine ⟨_, rfl, _, _, rfl, rfl, ⟨by decide, by decide⟩, .inl ⟨_, rfl, _, _, rfl, rfl, by show (0 : Int) < 999983; decide, _, _, rfl, ?_⟩⟩
        refine ⟨_, rfl, c, cs, rfl, hq, .inl ⟨_, rfl, _, _, rfl, rfl, by show (0 : Int) < 65521; decide, ?_⟩⟩
        refine ⟨_, rfl, _, rfl, _, _, rfl, rfl, .inl ⟨by decide, by decide⟩, _, _, rfl, rfl, _, _, rfl, rfl, .inr ⟨by decide, by decide⟩, ?_⟩
        refine ⟨_, rfl, _, _, rfl, rfl, .inl ⟨by decide, by decide⟩, _, _, rfl, rfl, _, rfl, _, _, rfl, rfl, .inl ⟨_, rfl, _, _, rfl, rfl, by show (0 : Int) < 2147483647; decide, ?_⟩⟩
        refine ⟨_, rfl, _, rfl, _, rfl, _, _, rfl, rfl, .inl ⟨by decide, by decide⟩, _, _, rfl, rfl, _, _, rfl, rfl, _, _, rfl, rfl, .inl ⟨?_, ?_⟩, .inl ⟨_, rfl, _, _, rfl, rfl, by show (0 : Int) < 2147483629; decide, ?_⟩⟩
        · have := Int.emod_nonneg ((((cs[j] + 13 * Int.fdiv (i : Int) ((cs.map V.int).length : Int)) % 1000003 + 977 * (i : Int)) * 48271 + 31 * (Int.fdiv (cs[j] + 13 * Int.fdiv (i : Int) ((cs.map V.int).length : Int)) 1000003 % 999983)) + cs.sum % 65521) (show (2147483647 : Int) ≠ 0 by decide)
          omega
        · have := Int.emod_lt_of_pos ((((cs[j] + 13 * Int.fdiv (i : Int) ((cs.map V.int).length : Int)) % 1000003 + 977 * (i : Int)) * 48271 + 31 * (Int.fdiv (cs[j] + 13 * Int.fdiv (i : Int) ((cs.map V.int).length : Int)) 1000003 % 999983)) + cs.sum % 65521) (show (0 : Int) < 2147483647 by decide)
          omega
        · exact ⟨_, _, rfl, rfl, .inr ⟨by decide, by decide⟩, _, rfl, _, _, rfl, rfl, q _ _ s1⟩
theorem b_num (T : Tx K mg A) : L2.Binds K A.d__law_number ["script", "index"] [] := T.F__law_number.binds fun _ _ _ _ _ _ us hl => match us, hl with | [_, _], _ => rfl

theorem kb_of (T : Tx K mg A) : ∃ mv : List Value, KBn K A.d_t_of ["cls", "row", "arms"] 2 ["arms"] (fun us ws => us ++ (mv ++ ws)) (fun vs zs => vs ++ zs) := by
  obtain ⟨mv, h⟩ := T.F_t_of.kbinds0 (ps := ["cls", "row", "arms"]) 2 ["arms"] [] (fun us mv ws => us ++ (mv ++ ws)) (by simp) (by simp) (fun r1 r2 r3 => r1.append (r2.append r3))
    (fun D doc pm an cdv ct us mv ws h1 h2 h3 => by
      match us, mv, ws, h1, h2, h3 with
      | [a, b], [], [c], _, _, _ => rfl)
  exact ⟨mv, h⟩
theorem b_iter' (T : Tx K mg A) : L2.Binds K A.d_t___iter__ ["self"] [] := b_iter T
theorem ix_sq {H : Hp} {a : Addr} {ns : List Int} {i : Nat} {Q : VK} (h : Sq H a (ns.map V.int)) (hi : i < ns.length) (q : Q (.int (ns.getD i 0)) H) : rIx K (.ref a) (.int i) H Q := by
  have e : (ns.map V.int)[i]? = some (V.int (ns.getD i 0)) := by
    rw [List.getElem?_map, List.getElem?_eq_getElem hi, List.getD_eq_getElem?_getD, List.getElem?_eq_getElem hi]
    rfl
  rcases h with h | h
  · exact .inl ⟨a, _, _, _, rfl, rfl, SqL.of h, atI_nat e, q⟩
  · exact .inr (.inl ⟨a, _, _, _, rfl, rfl, SqT.of h, atI_nat e, q⟩)
/-- the faults of a row -/
def faultB (ns : List Int) (w p : Nat) : Bool := decide (0 < p) && decide (ns.getD p 0 < ns.getD ((p - 1) / w) 0)
def faultL (ns : List Int) (w : Nat) : List Nat := (List.range ns.length).filter (faultB ns w)
theorem filt_pick (l : List Nat) (b : Nat → Bool) : vi (l.filter b) = l.filterMap fun j => if b j = true then some (V.int (j : Nat)) else none := by
  unfold vi
  induction l with
  | nil => rfl
  | cons a l ih =>
    by_cases h : b a = true
    · rw [List.filter_cons_of_pos h, List.map_cons, ih, List.filterMap_cons, if_pos h]
    · rw [List.filter_cons_of_neg h, ih, List.filterMap_cons, if_neg h]
def RowIn (H : Hp) (a : Addr) (ns : List Int) : Prop := Sq H a (ns.map V.int) ∧ ns.length ≤ 12 ∧ (∀ n ∈ ns, -1000000000 ≤ n ∧ n ≤ 1000000000)
theorem RowIn.same {H H' : Hp} {a : Addr} {ns : List Int} (h : RowIn H a ns) (s : Same H H') : RowIn H' a ns := ⟨h.1.same s, h.2⟩
def spFau : Sp := fun vs H Q _ => ∃ (a w : Nat) (ns : List Int), vs = [.ref a, .int w] ∧ (1 ≤ w ∧ w ≤ 4) ∧ RowIn H a ns ∧ ∀ H' q, Same H H' → H q = none → H' q = some (.lst (vi (faultL ns w))) → Q (.ref q) H'
theorem ok_fau (T : Tx K mg A) : FnOk P w K mg base CX0 7 A.f_faults A.d_faults ["row", "arms"] spFau := by
  obtain ⟨mo, ko⟩ := kb_of T
  refine T.F_faults.ok sc_faults (fun vs H Q E h => ?_) (fun cdv B outer s H vs Q E hr h => ?_)
  · obtain ⟨a, w, ns, rfl, _⟩ := h
    rfl
  · obtain ⟨a, w, ns, rfl, hw, hrow, q⟩ := h
    have nd := sc_faults.nd
    refine ⟨_, PSs.nox (pss_cons (ps_set (i := 2) nd rfl (Or.inr rfl) (pe_cmethK (pe_glob (v := .ref A.C) (by rfl) T.mC (relR _)) T.cr T.cof (ok_of T) hr ko pass0 (pa_cons (pv 0) pa_nil) (pk_cons (pv 1) pk_nil)))
      (pss_one (ps_ret (pe_lc (own := [("place", 3)]) (g := gName 3) rfl nd (pi_own T.D_t___iter__ (ok_iter T) (hr.mono (by decide)) (b_iter T) (pv 2)) (blkOk_by (own := [("place", 3)]) (N := ["row", "arms", "tree", "place"]) (sc := defScope s_faults) (by decide +kernel))
        (fun _ _ _ _ _ => pg_name (i := 3) nd rfl (Or.inl rfl))
        (fun _ _ _ _ _ => pts_one (PW.pt (pw_and (pt_cmpR op_gt (pv 3) pe_int (nomark _)) (pw_and1 (pt_cmpR op_lt (pe_ix (r := rIx K) ix_seq (pv 0) (pv 3) (fun _ _ => rfl))
          (pe_ix (r := rIx K) ix_seq (pv 0) (pe_meth (pv 2) T.cT T.M_t_parent (ok_par T) (hr.mono (by decide)) (b_par T) .nil pass0 (pa_cons (pv 3) pa_nil)) (fun _ _ => rfl)) (nomark _))))))
        (fun _ _ _ _ _ => pv 3))))), ?_⟩
    refine ⟨rfl, _, rfl, _, rfl, rfl, rfl, a, w, ns, rfl, hw, hrow.1, hrow.2.1, hrow.2.2, fun H1 p s1 p0 t1 => ?_⟩
    obtain ⟨dx, l, h1, h2⟩ := t1.ob
    have noP : (tf ns.length w l).lookup ("parent" : Str) = none := tf_no _ _ _ (by decide +kernel) (by decide +kernel) (by decide +kernel)
    have hlen := hrow.2.1
    refine ⟨_, rfl, p, dx, _, l, _, rfl, h1, tf_pl _ _ _, SqT.of h2, fun D hD => ?_⟩
    refine lc_it (walk_tup (xs := pl ns.length)) (PickI H1 D (List.range ns.length) fun j => if faultB ns w j = true then some (V.int (j : Nat)) else none) (pick_start hD) (fun k H' _ h => SqT.of (h.s _ _ h2)) ?_ ?_
    · rintro k x H2 H3 hk pk ⟨rfl, ex⟩
      obtain ⟨hk', rfl⟩ := map_at ex
      rw [List.getElem_range]
      have hk2 : k < ns.length := by rw [List.length_range] at hk'; exact hk'
      have hrow3 := (hrow.1.same s1).same pk.s
      refine ⟨rfl, _, rfl, _, _, rfl, rfl, _, rfl, ?_⟩
      by_cases h0 : 0 < k
      · rw [decide_eq_true (show (0 : Int) < (k : Nat) by omega)]
        have ep : parV w k = V.int ((k - 1) / w : Nat) := by unfold parV; rw [if_neg (by omega)]
        have hlt : (k - 1) / w < k := Nat.lt_of_le_of_lt (Nat.div_le_self _ _) (by omega)
        refine iteT ⟨_, rfl, _, rfl, ix_sq hrow3 hk2 ⟨_, rfl, _, rfl, p, dx, _, rfl, pk.s _ _ h1, noP, _, rfl, p, ns.length, w, k, rfl, t1.same pk.s, hk2, ?_⟩⟩
        rw [ep]
        refine ix_sq hrow3 (by omega) ⟨_, _, rfl, rfl, _, rfl, ?_⟩
        have ef : faultB ns w k = decide (ns.getD k 0 < ns.getD ((k - 1) / w) 0) := by unfold faultB; rw [decide_eq_true h0, Bool.true_and]
        by_cases hf : ns.getD k 0 < ns.getD ((k - 1) / w) 0
        · rw [decide_eq_true hf] at ef ⊢
          exact iteT ⟨_, rfl, pick_yes hk' (by rw [List.length_range]; omega) (by rw [List.getElem_range, ef]; rfl) (Same.refl _) pk⟩
        · rw [decide_eq_false hf] at ef ⊢
          exact iteF (pick_no hk' (by rw [List.getElem_range, ef]; rfl) (Same.refl _) pk)
      · rw [decide_eq_false (show ¬ (0 : Int) < (k : Nat) by omega)]
        have ef : faultB ns w k = false := by unfold faultB; rw [decide_eq_false h0, Bool.false_and]
        exact iteF (iteF (pick_no hk' (by rw [List.getElem_range, ef]; rfl) (Same.refl _) pk))
    · intro H2 pk
      have ac := pick_end (by rw [pl_len, List.length_range]) pk
      refine q _ D (s1.trans ac.s) (s1.free hD) ?_
      rw [ac.a]
      unfold faultL
      rw [filt_pick]
theorem kb_fau (T : Tx K mg A) : ∃ mv : List Value, KBn K A.d_faults ["row", "arms"] 1 ["arms"] (fun us ws => us ++ (mv ++ ws)) (fun vs zs => vs ++ zs) := by
  obtain ⟨mv, h⟩ := T.F_faults.kbinds0 (ps := ["row", "arms"]) 1 ["arms"] [] (fun us mv ws => us ++ (mv ++ ws)) (by simp) (by simp) (fun r1 r2 r3 => r1.append (r2.append r3))
    (fun D doc pm an cdv ct us mv ws h1 h2 h3 => by
      match us, mv, ws, h1, h2, h3 with
      | [a], [], [c], _, _, _ => rfl)
  exact ⟨mv, h⟩
theorem bd_fau (T : Tx K mg A) : ∃ ds, Vals [V.int 2] ds ∧ L2.Binds K A.d_faults ["row", "arms"] ds := by
  refine T.F_faults.binds0 1 (by simp) rfl (fun D doc pm an cdv ct us ks h1 h2 => ?_)
  match us, ks, h1, h2 with
  | [a], [c], _, _ => exact ⟨_, _, _, _, _, _, rfl, rfl, rfl⟩
def spIsH : Sp := fun vs H Q _ => ∃ (a w : Nat) (ns : List Int), vs = [.ref a, .int w] ∧ (1 ≤ w ∧ w ≤ 4) ∧ RowIn H a ns ∧ ∀ H', Same H H' → Q (.bl (decide (faultL ns w = []))) H'
theorem ok_ish (T : Tx K mg A) : FnOk P w K mg base CX0 8 A.f_is_heap A.d_is_heap ["row", "arms"] spIsH := by
  obtain ⟨mo, ko⟩ := kb_fau T
  refine T.F_is_heap.ok sc_is_heap (fun vs H Q E h => ?_) (fun cdv B outer s H vs Q E hr h => ?_)
  · obtain ⟨a, w, ns, rfl, _⟩ := h
    rfl
  · obtain ⟨a, w, ns, rfl, hw, hrow, q⟩ := h
    refine ⟨_, PSs.nox (pss_one (ps_ret (pe_notT (pe_callN (ok_fau T) hr (by rfl) T.m_faults T.F_faults.kp ko pass0 (pa_cons (pv 0) pa_nil) (pk_cons (pv 1) pk_nil))))), ?_⟩
    refine ⟨_, rfl, _, rfl, rfl, rfl, a, w, ns, rfl, hw, hrow, fun H1 r s1 r0 hr1 => ?_⟩
    refine ⟨!(vi (faultL ns w)).isEmpty, .inl ⟨_, SqL.of hr1, rfl⟩, ?_⟩
    have e : (!(!(vi (faultL ns w)).isEmpty)) = decide (faultL ns w = []) := by
      rw [Bool.not_not]
      unfold vi
      cases faultL ns w with
      | nil => rfl
      | cons x l => rfl
    rw [e]
    exact q _ s1

end
end Tw

set_option Elab.async false
set_option linter.all false
set_option maxRecDepth 100000
set_option maxHeartbeats 2000000
namespace Tw
open PySem PySem.Spec PyProof.Rows L2
section
variable {P : Program} {w : World} {K : PySem.W.Frag} {mg : Str → Option Value} {base : Heap} {A : Ad}
def natB (p : List Nat) : List Int := p.map fun x => Int.ofNat x
abbrev abL (w p : Nat) : List Nat := (wayL w p).dropLast
abbrev beL (n w p : Nat) : List Nat := (subL n w p).drop 1
def bsB (n w p o : Nat) : Bool := decide (o ≠ p) && (decide (o ∉ abL w p) && decide (o ∉ beL n w p))
def bsL (n w p : Nat) : List Nat := (List.range n).filter (bsB n w p)
def ordL (n w p r : Nat) : List Nat := abL w p ++ (bsL n w p).take (r - (abL w p).length) ++ [p] ++ (bsL n w p).drop (r - (abL w p).length) ++ beL n w p
def byT (l : List Nat) : Nat → List Nat
  | 0 => List.replicate l.length 0
  | i + 1 => (byT l i).set (l.getD i 0) i
def byO (l : List Nat) : List Nat := byT l l.length
theorem byT_len (l : List Nat) : ∀ i, (byT l i).length = l.length
  | 0 => List.length_replicate
  | i + 1 => by
    unfold byT
    rw [List.length_set, byT_len l i]
def dueL (n w p : Nat) : List Nat := (List.range (n - (beL n w p).length - ((wayL w p).length - 1))).map fun i => (wayL w p).length - 1 + i
def ascB (l : List Nat) : Bool := decide (l.Pairwise (· < ·))
def aboveF : Nat → Nat → Nat → List Nat
  | 0, _, _ => []
  | f + 1, w, p => if p = 0 then [] else (p - 1) / w :: aboveF f w ((p - 1) / w)
def aboveL (w p : Nat) : List Nat := aboveF 13 w p
theorem above_eq : ∀ w, w < 5 → ∀ p, p < 13 → 1 ≤ w → aboveL w p = if p = 0 then [] else (p - 1) / w :: aboveL w ((p - 1) / w) := by decide +kernel
theorem above_len : ∀ w, w < 5 → ∀ p, p < 13 → 1 ≤ w → (aboveL w p).length ≤ 12 := by decide +kernel
def belowL (n w p : Nat) : List Nat := (List.range n).filter fun one => decide (p ∈ aboveL w one)
def okP (n w p : Nat) : Bool :=
  decide (1 ≤ (wayL w p).length) && decide (1 ≤ (subL n w p).length) && ascB (abL w p) && ascB (beL n w p) && (abL w p).all (fun x => decide (x < n)) && (beL n w p).all (fun x => decide (x < n)) && decide ((beL n w p).length ≤ n) && decide ((wayL w p).length ≤ 10) &&
  (abL w p).all (fun x => decide (x ∈ aboveL w p)) && (aboveL w p).all (fun x => decide (x ∈ abL w p)) && decide (belowL n w p = beL n w p)
def okR (n w p r : Nat) : Bool :=
  if r < (abL w p).length then decide (r ∉ dueL n w p) else if n - 1 - r < (beL n w p).length then decide (r ∉ dueL n w p) else
    decide (r ∈ dueL n w p) && decide ((byO (ordL n w p r)).getD p 0 = r) && (byO (ordL n w p r)).isPerm (List.range n) && decide (faultL (natB (byO (ordL n w p r))) w = []) &&
    decide ((ordL n w p r).length = n) && (ordL n w p r).all (fun x => decide (x < n))
def okN (n w : Nat) : Bool := (List.range n).all fun p => okP n w p && (List.range n).all fun r => okR n w p r
theorem okN_all : ∀ w, w < 5 → ∀ n, n < 10 → 1 ≤ w → okN n w = true := by decide +kernel
structure Dm (n w : Nat) : Prop where
  n6 : n ≤ 9
  w4 : 1 ≤ w ∧ w ≤ 4
structure PlOk (n w p : Nat) : Prop where
  w1 : 1 ≤ (wayL w p).length
  s1 : 1 ≤ (subL n w p).length
  aa : (abL w p).Pairwise (· < ·)
  ba : (beL n w p).Pairwise (· < ·)
  an : ∀ x ∈ abL w p, x < n
  bn : ∀ x ∈ beL n w p, x < n
  bl : (beL n w p).length ≤ n
  wl : (wayL w p).length ≤ 10
  ab : ∀ x, x ∈ abL w p ↔ x ∈ aboveL w p
  be : belowL n w p = beL n w p
structure RkOk (n w p r : Nat) : Prop where
  due : r ∈ dueL n w p
  at_ : (byO (ordL n w p r)).getD p 0 = r
  perm : (byO (ordL n w p r)).Perm (List.range n)
  heap : faultL (natB (byO (ordL n w p r))) w = []
  len : (ordL n w p r).length = n
  lt : ∀ x ∈ ordL n w p r, x < n
theorem Dm.place {n w p : Nat} (d : Dm n w) (hp : p < n) : PlOk n w p ∧ ∀ r, r < n → (r < (abL w p).length → r ∉ dueL n w p) ∧ (¬ r < (abL w p).length → n - 1 - r < (beL n w p).length → r ∉ dueL n w p) ∧
    (¬ r < (abL w p).length → ¬ n - 1 - r < (beL n w p).length → RkOk n w p r) := by
  have h6 := d.n6
  have hw := d.w4
  have h := okN_all w (by omega) n (by omega) hw.1
  unfold okN at h
  simp only [List.all_eq_true, List.mem_range, Bool.and_eq_true] at h
  obtain ⟨h1, h2⟩ := h p hp
  refine ⟨?_, fun r hr => ?_⟩
  · unfold okP ascB at h1
    simp only [Bool.and_eq_true, decide_eq_true_eq, List.all_eq_true] at h1
    obtain ⟨⟨⟨⟨⟨⟨⟨⟨⟨⟨c, d'⟩, e⟩, f⟩, g⟩, i⟩, j⟩, k⟩, l⟩, m⟩, o⟩ := h1
    exact ⟨c, d', e, f, g, i, j, k, fun x => ⟨l x, m x⟩, o⟩
  · have h3 := h2 r hr
    unfold okR at h3
    refine ⟨fun q => ?_, fun q1 q2 => ?_, fun q1 q2 => ?_⟩
    · rw [if_pos q] at h3
      exact of_decide_eq_true h3
    · rw [if_neg q1, if_pos q2] at h3
      exact of_decide_eq_true h3
    · rw [if_neg q1, if_neg q2] at h3
      simp only [Bool.and_eq_true, decide_eq_true_eq, List.all_eq_true] at h3
      obtain ⟨⟨⟨⟨⟨a, c⟩, e⟩, f⟩, g⟩, i⟩ := h3
      exact ⟨a, c, List.isPerm_iff.mp e, f, g, i⟩
/-! rows of any ints -/
def fhB (n w : Nat) (ns : List Int) : Bool := ns.isPerm (natB (List.range n)) && decide (faultL ns w = [])
def lfB (n w : Nat) (ns : List Int) : Bool := ns.isPerm (natB (List.range n)) && (List.range (n - 1)).all fun i => decide (ns.getD (i / w) 0 < ns.getD (i + 1) 0)
def setB (n : Nat) (ns : List Int) : Bool := ns.all (fun x => decide (0 ≤ x ∧ x ≤ (n : Int) - 1)) && decide (ns.Pairwise (· < ·))
def amB (ns : List Int) (l : List Nat) : Bool := ns.all fun x => decide (x ∈ natB l)
def partB (ns : List Int) (l : List Nat) (m : Int) : Bool := decide (ns.Pairwise (· < ·)) && (amB ns l && decide (m < (ns.length : Nat)))
theorem range_nodup (n : Nat) : (natB (List.range n)).Nodup := by
  unfold natB
  rw [List.nodup_iff_pairwise_ne, List.pairwise_map]
  exact List.pairwise_lt_range.imp fun h z => by
    have := Int.ofNat.inj z
    omega
theorem fh_lf (n w : Nat) (ns : List Int) (hw : 1 ≤ w) : fhB n w ns = lfB n w ns := by
  unfold fhB lfB
  by_cases hp : ns.isPerm (natB (List.range n)) = true
  · rw [hp, Bool.true_and, Bool.true_and, Bool.eq_iff_iff, decide_eq_true_eq, List.all_eq_true]
    have pm := List.isPerm_iff.mp hp
    have hl : ns.length = n := by
      have := pm.length_eq
      unfold natB at this
      rw [List.length_map, List.length_range] at this
      exact this
    have hd : ns.Nodup := pm.nodup_iff.mpr (range_nodup n)
    refine ⟨fun h i hi => ?_, fun h => ?_⟩
    · have hi := List.mem_range.mp hi
      rw [decide_eq_true_eq]
      have hdiv : i / w ≤ i := Nat.div_le_self _ _
      have hnf : i + 1 ∉ faultL ns w := by rw [h]; exact List.not_mem_nil
      have h1 : ¬ (ns.getD (i + 1) 0 < ns.getD (i / w) 0) := fun z => hnf (by
        unfold faultL faultB
        refine List.mem_filter.mpr ⟨List.mem_range.mpr (by omega), ?_⟩
        rw [Nat.add_sub_cancel, decide_eq_true z, decide_eq_true (Nat.succ_pos i)]
        rfl)
      have h2 : ns.getD (i / w) 0 ≠ ns.getD (i + 1) 0 := fun z => by
        have a1 : i / w < ns.length := by omega
        have a2 : i + 1 < ns.length := by omega
        rw [List.getD_eq_getElem?_getD, List.getD_eq_getElem?_getD, List.getElem?_eq_getElem a1, List.getElem?_eq_getElem a2] at z
        exact (List.pairwise_iff_getElem.mp (List.nodup_iff_pairwise_ne.mp hd) (i / w) (i + 1) a1 a2 (by omega)) z
      omega
    · refine List.eq_nil_iff_forall_not_mem.mpr fun p hp => ?_
      unfold faultL faultB at hp
      obtain ⟨a1, a2⟩ := List.mem_filter.mp hp
      have a1 := List.mem_range.mp a1
      rw [Bool.and_eq_true, decide_eq_true_eq, decide_eq_true_eq] at a2
      have := of_decide_eq_true (h (p - 1) (List.mem_range.mpr (by omega)))
      rw [show p - 1 + 1 = p by omega] at this
      omega
  · rw [Bool.eq_false_iff.mpr hp, Bool.false_and, Bool.false_and]
theorem set_part {n : Nat} {ns : List Int} {l l2 : List Nat} {m : Int} (hm : ∀ x, x ∈ l ↔ x ∈ l2) (hl : ∀ x ∈ l, x < n) : (setB n ns && (decide (m < (ns.length : Nat)) && amB ns l)) = partB ns l2 m := by
  unfold setB partB
  have e : amB ns l = amB ns l2 := by
    unfold amB
    refine congrArg (fun f => ns.all f) (funext fun x => ?_)
    unfold natB
    rw [Bool.eq_iff_iff, decide_eq_true_eq, decide_eq_true_eq, List.mem_map, List.mem_map]
    exact ⟨fun ⟨a, h, z⟩ => ⟨a, (hm a).mp h, z⟩, fun ⟨a, h, z⟩ => ⟨a, (hm a).mpr h, z⟩⟩
  rw [← e]
  by_cases ha : amB ns l = true
  · have hr : ns.all (fun x => decide (0 ≤ x ∧ x ≤ (n : Int) - 1)) = true := List.all_eq_true.mpr fun x hx => by
      have := of_decide_eq_true (List.all_eq_true.mp ha x hx)
      unfold natB at this
      obtain ⟨y, hy, rfl⟩ := List.mem_map.mp this
      have := hl y hy
      rw [decide_eq_true_eq]
      show (0 : Int) ≤ (y : Int) ∧ (y : Int) ≤ (n : Int) - 1
      omega
    rw [hr, ha, Bool.true_and, Bool.and_true, Bool.true_and]
  · rw [Bool.eq_false_iff.mpr ha, Bool.and_false, Bool.and_false, Bool.false_and, Bool.and_false]

end
end Tw

set_option Elab.async false
set_option linter.all false
set_option maxRecDepth 100000
set_option maxHeartbeats 2000000
namespace Tw
open PySem PySem.Spec PyProof.Rows L2
section
variable {P : Program} {w : World} {K : PySem.W.Frag} {mg : Str → Option Value} {base : Heap} {A : Ad}
theorem sorted_one {xs ys : List Int} (hp : xs.Perm ys) (h1 : xs.Pairwise (· ≤ ·)) (h2 : ys.Pairwise (· ≤ ·)) : xs = ys := List.Perm.eq_of_pairwise (fun x y _ _ h1 h2 => Int.le_antisymm h1 h2) h1 h2 hp
theorem cr_or {X : Cx} {f : Value} {r1 r2 : List V → Hp → VK → Prop} (h1 : CallR X f r1) (h2 : CallR X f r2) : CallR X f (fun vs H Q => r1 vs H Q ∨ r2 vs H Q) := by
  intro pins s σ H vs us Q I rv h
  rcases h with h | h
  · exact h1 pins s σ H vs us Q I rv h
  · exact h2 pins s σ H vs us Q I rv h
theorem sort_sq {K : PySem.W.Frag} {H : Hp} {r : Addr} {ks : List Int} {Q : VK} (h : Sq H r (ks.map V.int)) (q : ∀ (ns' : List Int) (p : Addr), ns'.Perm ks → ns'.Pairwise (· ≤ ·) → H p = none → Q (.ref p) (upd H p (.lst (ns'.map V.int)))) : rSortedI K [.ref r] H Q ∨ rSortedTu K [.ref r] H Q := by
  rcases h with h | h
  · exact .inl ⟨r, ks, rfl, SqL.of h, q⟩
  · exact .inr ⟨r, ks, rfl, SqT.of h, q⟩
theorem refl_of {d : PyData} (h : SeqAt.shaped d = true) : PyData.eqv d d = true := PySem.SeqAt.eqv_refl d (SeqAt.canLay_of_shaped h)
/-- a tuple of keys at an address -/
def RowAt (H : Hp) (v : V) (l : List Int) : Prop := ∃ t, v = .ref t ∧ H t = some (.tup (l.map V.int))
abbrev RowsAt (H : Hp) : List V → List (List Int) → Prop := Paired (RowAt H)
theorem RowsAt.same {H H' : Hp} {xs : List V} {ls : List (List Int)} (h : RowsAt H xs ls) (s : Same H H') : RowsAt H' xs ls := L2.Paired.mapP h fun _ _ ⟨t, e, z⟩ => ⟨t, e, s _ _ z⟩
theorem RowsAt.push {H : Hp} {x : V} {l : List Int} (hp : RowAt H x l) : ∀ {xs : List V} {ls : List (List Int)}, RowsAt H xs ls → RowsAt H (xs ++ [x]) (ls ++ [l])
  | _, _, .nil => .cons hp .nil
  | _, _, .cons a b => .cons a (RowsAt.push hp b)
theorem RowsAt.put {H : Hp} {D : Addr} {xs zs ys : List V} {ls : List (List Int)} (hD : H D = some (.lst zs)) (h : RowsAt H xs ls) : RowsAt (upd H D (.lst ys)) xs ls :=
  L2.Paired.mapP h fun _ _ ⟨t, e, z⟩ => ⟨t, e, by rw [upd_ne (ne_of z hD (by intro q; cases q))]; exact z⟩
theorem RowsAt.get {H : Hp} : ∀ {xs : List V} {ls : List (List Int)} {i : Nat} {x : V}, RowsAt H xs ls → xs[i]? = some x → ∃ hi : i < ls.length, RowAt H x ls[i]
  | _, _, 0, _, .cons a _, e => ⟨Nat.succ_pos _, by rw [← Option.some.inj e]; exact a⟩
  | _, _, i + 1, _, .cons _ b, e => by
    obtain ⟨hi, r⟩ := RowsAt.get b (by simpa using e)
    exact ⟨Nat.succ_lt_succ hi, r⟩
structure AccR (H1 : Hp) (D : Addr) (ls : List (List Int)) (H : Hp) : Prop where
  s : Same H1 H
  n : H1 D = Option.none
  a : ∃ xs, H D = some (.lst xs) ∧ RowsAt H xs ls
theorem AccR.start {H1 : Hp} {D : Addr} (n : H1 D = none) : AccR H1 D [] (upd H1 D (.lst [])) := ⟨Same.up n, n, [], upd_same, .nil⟩
theorem AccR.same {H1 H H' : Hp} {D : Addr} {ls : List (List Int)} (h : AccR H1 D ls H) (s : Same H H') : AccR H1 D ls H' := ⟨h.s.trans s, h.n, let ⟨xs, e, z⟩ := h.a; ⟨xs, s _ _ e, z.same s⟩⟩
theorem AccR.push {H1 H : Hp} {D : Addr} {ls : List (List Int)} {x : V} {l : List Int} (h : AccR H1 D ls H) (hp : RowAt H x l) (hl : ls.length < sizeLine) :
    ∃ acc, H D = some (.lst acc) ∧ acc.length < sizeLine ∧ AccR H1 D (ls ++ [l]) (upd H D (.lst (acc ++ [x]))) := by
  obtain ⟨xs, e, z⟩ := h.a
  refine ⟨xs, e, by rw [z.length]; exact hl, fun b o k => ?_, h.n, xs ++ [x], upd_same, (RowsAt.push hp z).put e⟩
  rw [upd_ne (ne_of_none k h.n)]
  exact h.s b o k
theorem plAt {n i : Nat} {x : V} (h : (pl n)[i]? = some x) : i < n ∧ x = V.int (i : Nat) := by
  unfold pl at h
  rw [List.getElem?_map] at h
  by_cases hi : i < n
  · rw [List.getElem?_range hi] at h
    exact ⟨hi, (Option.some.inj h).symm⟩
  · rw [List.getElem?_eq_none (by rw [List.length_range]; omega)] at h
    cases h
theorem era_map : ∀ (l : List Int) (i : Nat), (l.map V.int).eraseIdx i = (l.eraseIdx i).map V.int
  | [], _ => rfl
  | _ :: _, 0 => rfl
  | a :: l, i + 1 => by
    rw [List.map_cons, List.eraseIdx_cons_succ, List.eraseIdx_cons_succ, List.map_cons, era_map l i]
theorem RowsAt.app {H : Hp} : ∀ {xs ys : List V} {ls ms : List (List Int)}, RowsAt H xs ls → RowsAt H ys ms → RowsAt H (xs ++ ys) (ls ++ ms)
  | _, _, _, _, .nil, h => h
  | _, _, _, _, .cons a b, h => .cons a (RowsAt.app b h)
theorem map_one (l : List Int) (x : Int) : l.map V.int ++ [V.int x] = (l ++ [x]).map V.int := by rw [List.map_append]; rfl
theorem ints_tup (K : PySem.W.Frag) {H : Hp} {a : Addr} {ks : List Int} (h : H a = some (.tup (ks.map V.int))) : Dp K H (.ref a) (.tuple (ks.map PyData.int)) := .tup (SqT.of h) (ints_dp K H ks)
theorem ints_shT (ks : List Int) : SeqAt.shaped (.tuple (ks.map PyData.int)) = true := by
  have h := shaped_ints ks
  unfold SeqAt.shaped at h ⊢
  simp only [PyData.canLay0, PyData.depth] at h ⊢
  exact h
theorem ints_all : ∀ ks ms : List Int, PyData.eqvAll (ks.map PyData.int) (ms.map PyData.int) = decide (ks = ms)
  | [], [] => by simp [PyData.eqvAll]
  | [], m :: ms => by simp [PyData.eqvAll]
  | k :: ks, [] => by simp [PyData.eqvAll]
  | k :: ks, m :: ms => by
    simp only [List.map_cons, PyData.eqvAll, ints_all ks ms, PyData.eqv]
    by_cases h1 : k = m
    · by_cases h2 : ks = ms <;> simp [h1, h2]
    · simp [h1]
/-- tuples of keys as data -/
abbrev rowD (r : List Int) : PyData := .tuple (r.map .int)
theorem rowD_dp {H : Hp} {v : V} {r : List Int} (h : RowAt H v r) : Dp K H v (rowD r) := by
  obtain ⟨t, rfl, e⟩ := h
  exact ints_tup K e
theorem rowsD_dp {H : Hp} : ∀ {xs : List V} {ls : List (List Int)}, RowsAt H xs ls → DpAll K H xs (ls.map rowD)
  | _, _, .nil => .nil
  | _, _, .cons a b => .cons (rowD_dp a) (rowsD_dp b)
theorem rowD_eqv (r q : List Int) : PyData.eqv (rowD r) (rowD q) = decide (r = q) := by
  rw [← ints_all]
  simp [PyData.eqv]
theorem rowsD_lay : ∀ ls : List (List Int), PyData.canLayAll0 (ls.map rowD) = true
  | [] => rfl
  | r :: ls => by
    have h := SeqAt.canLay_of_shaped (ints_shT r)
    rw [List.map_cons, PyData.canLayAll0, rowsD_lay ls, Bool.and_true]
    exact h
theorem rowsD_deep : ∀ ls : List (List Int), PyData.depthAll (ls.map rowD) ≤ 3
  | [] => by simp [PyData.depthAll]
  | r :: ls => by
    have := rowsD_deep ls
    have hp : PyData.depth (rowD r) ≤ 3 := by simp [rowD, PyData.depth, PySem.W.depth_ints]
    simp only [List.map_cons, PyData.depthAll]
    omega
theorem rowsD_shaped (ls : List (List Int)) : SeqAt.shaped (.list (ls.map rowD)) = true := by
  have := rowsD_deep ls
  unfold SeqAt.shaped
  rw [Bool.and_eq_true]
  refine ⟨?_, decide_eq_true ?_⟩
  · simp only [PyData.canLay0]
    exact rowsD_lay ls
  · simp only [PyData.depth]
    omega
theorem rowsD_all : ∀ ls ms : List (List Int), PyData.eqvAll (ls.map rowD) (ms.map rowD) = decide (ls = ms)
  | [], [] => by simp [PyData.eqvAll]
  | [], q :: qs => by simp [PyData.eqvAll]
  | p :: ps, [] => by simp [PyData.eqvAll]
  | p :: ps, q :: qs => by
    simp only [List.map_cons, PyData.eqvAll, rowsD_all ps qs]
    rw [rowD_eqv]
    by_cases h1 : p = q
    · by_cases h2 : ps = qs <;> simp [h1, h2]
    · simp [h1]
theorem rowsL_eqv (ls ms : List (List Int)) : PyData.eqv (.list (ls.map rowD)) (.list (ms.map rowD)) = decide (ls = ms) := by
  rw [← rowsD_all]
  simp [PyData.eqv]
theorem at_last {xs : List V} (h : 0 < xs.length) : atI xs (-1) = some xs[xs.length - 1] := by
  unfold atI ixN
  rw [if_neg (by omega), if_pos (by omega), show ((-1 : Int) + (xs.length : Nat)).toNat = xs.length - 1 by omega]
  exact List.getElem?_eq_getElem (by omega)
theorem SqT.sm {K : PySem.W.Frag} {H H' : Hp} {a : Addr} {xs : List V} (s : Same H H') (h : SqT K H a xs) : SqT K H' a xs := by
  rcases h with (h | ⟨o, h⟩) | h
  · exact .inl (.inl (s _ _ h))
  · exact .inl (.inr ⟨o, s _ _ h⟩)
  · exact .inr h
theorem tupI_of {H : Hp} : ∀ {xs : List V} {ls : List (List Int)}, RowsAt H xs ls → Paired (TupI K H) xs ls
  | _, _, .nil => .nil
  | _, _, .cons ⟨t, e, h⟩ p => .cons ⟨t, e, SqT.of h⟩ (tupI_of p)
theorem tupI_sm {H H' : Hp} (s : Same H H') : ∀ {xs : List V} {ls : List (List Int)}, Paired (TupI K H) xs ls → Paired (TupI K H') xs ls
  | _, _, .nil => .nil
  | _, _, .cons ⟨t, e, h⟩ p => .cons ⟨t, e, SqT.sm s h⟩ (tupI_sm s p)
theorem tupI_dp {H : Hp} : ∀ {xs : List V} {ls : List (List Int)}, Paired (TupI K H) xs ls → DpAll K H xs (ls.map rowD)
  | _, _, .nil => .nil
  | _, _, .cons ⟨t, e, h⟩ p => by
    subst e
    exact .cons (.tup h (ints_dp K H _)) (tupI_dp p)
theorem pi_or {X : Cx} {tg e : Expr} {w1 w2 : TI} (h1 : PI X tg e w1) (h2 : PI X tg e w2) : PI X tg e (fun σ H R => w1 σ H R ∨ w2 σ H R) :=
  ⟨fun pins s σ H R I h => h.elim (h1.run pins s σ H R I) (h2.run pins s σ H R I)⟩
abbrev rLn (K : PySem.W.Frag) : List V → Hp → VK → Prop := fun xs H Q => ∃ p ys, xs = [.ref p] ∧ (SqL K H p ys ∨ SqT K H p ys) ∧ Q (.int ys.length) H
abbrev nv (p : List Nat) : List V := (natB p).map V.int
theorem nv_len (p : List Nat) : (nv p).length = p.length := by
  unfold nv natB
  rw [List.length_map, List.length_map]
theorem natB_len (p : List Nat) : (natB p).length = p.length := by
  unfold natB
  rw [List.length_map]
theorem nv_at {p : List Nat} {i : Nat} {x : V} (h : (nv p)[i]? = some x) : ∃ hi : i < p.length, x = V.int (p[i] : Nat) := by
  unfold nv natB at h
  rw [List.getElem?_map, List.getElem?_map] at h
  cases e : p[i]? with
  | none =>
    rw [e] at h
    cases h
  | some u =>
    rw [e] at h
    obtain ⟨hi, rfl⟩ := List.getElem?_eq_some_iff.mp e
    exact ⟨hi, (Option.some.inj h).symm⟩
theorem nv_get {p : List Nat} {i : Nat} (h : i < p.length) : (nv p)[i]? = some (V.int (p[i] : Nat)) := by
  unfold nv natB
  rw [List.getElem?_map, List.getElem?_map, List.getElem?_eq_getElem h]
  rfl
theorem nv_rg (n : Nat) : rgV 0 (n : Int) = nv (List.range n) := by
  unfold rgV nv natB
  rw [show ((n : Int) - 0).toNat = n by omega, List.map_map]
  exact congrArg (fun f => (List.range n).map f) (funext fun i => by rw [Int.zero_add]; rfl)
theorem nv_cut (p : List Nat) (i : Nat) (h : i ≤ p.length) : cutV (nv p) none (some (i : Int)) = nv (p.take i) := by
  unfold cutV
  rw [HT.sIx_none, HT.sIx_nat, List.drop_zero, Nat.sub_zero, nv_len, Nat.min_eq_left h]
  unfold nv natB
  rw [List.map_take, List.map_take]
theorem repl_all (n : Nat) : (List.replicate n true).all id = true := by
  rw [List.all_eq_true]
  intro x hx
  rw [(List.mem_replicate.mp hx).2]
  rfl
theorem eraN : ∀ (l : List Nat) (i : Nat), (nv l).eraseIdx i = nv (l.eraseIdx i)
  | [], _ => rfl
  | _ :: _, 0 => rfl
  | a :: l, i + 1 => congrArg (V.int (Int.ofNat a) :: ·) (eraN l i)
theorem appN (l : List Nat) (x : Nat) : nv l ++ [V.int (x : Nat)] = nv (l ++ [x]) := by
  unfold nv natB
  rw [List.map_append, List.map_append]
  rfl
theorem inV_nv (m : Nat) : ∀ p : List Nat, inV (V.int (m : Nat)) (nv p) = decide (m ∈ p)
  | [] => by simp [inV, nv, natB]
  | a :: p => by
    have ih := inV_nv m p
    unfold inV at ih ⊢
    show (eqV (V.int (Int.ofNat a)) (V.int (m : Nat)) || (nv p).any fun y => eqV y (V.int (m : Nat))) = _
    rw [ih]
    by_cases h : m = a
    · subst h
      rw [show eqV (V.int (Int.ofNat m)) (V.int (m : Nat)) = true from decide_eq_true rfl, Bool.true_or, decide_eq_true List.mem_cons_self]
    · rw [show eqV (V.int (Int.ofNat a)) (V.int (m : Nat)) = false from decide_eq_false (fun z => h (by have : (Int.ofNat a) = Int.ofNat m := z; exact (Int.ofNat.inj this).symm)), Bool.false_or]
      exact decide_eq_decide.mpr ⟨fun z => List.mem_cons_of_mem _ z, fun z => (List.mem_cons.mp z).resolve_left h⟩
theorem nv_flat : ∀ p : List Nat, (nv p).all flatV = true
  | [] => rfl
  | a :: p => by
    show (flatV (V.int (Int.ofNat a)) && (nv p).all flatV) = true
    rw [nv_flat p]
    rfl
theorem nv_tup (K : PySem.W.Frag) {H : Hp} {a : Addr} {p : List Nat} (h : H a = some (.tup (nv p))) : Dp K H (.ref a) (rowD (natB p)) := ints_tup K h
theorem rowD_same (p : List Nat) : PyData.eqv (rowD (natB p)) (rowD (natB p)) = true := by rw [rowD_eqv, decide_eq_true rfl]
def insA (x : Int) : List Int → List Int
  | [] => [x]
  | y :: l => if x < y then x :: y :: l else if x = y then y :: l else y :: insA x l
theorem insA_mem {x y : Int} : ∀ {l : List Int}, y ∈ insA x l ↔ y = x ∨ y ∈ l
  | [] => by simp [insA]
  | z :: l => by
    unfold insA
    by_cases h1 : x < z
    · rw [if_pos h1, List.mem_cons]
    · rw [if_neg h1]
      by_cases h2 : x = z
      · rw [if_pos h2]
        subst h2
        simp
      · rw [if_neg h2, List.mem_cons, insA_mem (l := l), List.mem_cons]
        exact ⟨fun h => by rcases h with h | h | h <;> simp [h], fun h => by rcases h with h | h | h <;> simp [h]⟩
theorem insA_asc {x : Int} : ∀ {l : List Int}, l.Pairwise (· < ·) → (insA x l).Pairwise (· < ·)
  | [], _ => List.pairwise_singleton _ _
  | z :: l, h => by
    obtain ⟨h1, h2⟩ := List.pairwise_cons.mp h
    unfold insA
    by_cases a : x < z
    · rw [if_pos a]
      refine List.pairwise_cons.mpr ⟨fun y hy => ?_, h⟩
      rcases List.mem_cons.mp hy with e | e
      · rw [e]; exact a
      · exact Int.lt_trans a (h1 y e)
    · rw [if_neg a]
      by_cases b : x = z
      · rw [if_pos b]
        exact h
      · rw [if_neg b]
        refine List.pairwise_cons.mpr ⟨fun y hy => ?_, insA_asc h2⟩
        rcases insA_mem.mp hy with e | e
        · rw [e]; omega
        · exact h1 y e
/-- the different keys, ascending -/
def ascL (l : List Int) : List Int := l.foldr insA []
theorem ascL_mem {y : Int} : ∀ {l : List Int}, y ∈ ascL l ↔ y ∈ l
  | [] => Iff.rfl
  | x :: l => by
    show y ∈ insA x (ascL l) ↔ _
    rw [insA_mem, ascL_mem (l := l), List.mem_cons]
theorem ascL_asc : ∀ l : List Int, (ascL l).Pairwise (· < ·)
  | [] => List.Pairwise.nil
  | x :: l => insA_asc (ascL_asc l)
theorem asc_nodup {l : List Int} (h : l.Pairwise (· < ·)) : l.Nodup := h.imp fun a => Int.ne_of_lt a
theorem asc_eq {l m : List Int} (h1 : l.Pairwise (· < ·)) (h2 : m.Pairwise (· < ·)) (h : ∀ x, x ∈ l ↔ x ∈ m) : l = m :=
  List.Perm.eq_of_pairwise (fun x y _ _ a b => absurd (Int.lt_trans a b) (Int.lt_irrefl _)) h1 h2 ((List.perm_ext_iff_of_nodup (asc_nodup h1) (asc_nodup h2)).mpr fun x => h x)
def tTruK (K : PySem.W.Frag) (ta : TE) : TT := fun σ H Q => ta σ H fun x H' => ∃ k, TruV K x H' k ∧ Q k H'
theorem pt_truK {X : Cx} {K : PySem.W.Frag} {a : Expr} {ta : TE} (hK : X.K = K) (ha : PE X a ta) (he : ∀ whole, isTrue a X.env whole = (do let v ← whole; standAt a.pos; holding [v] (truthy v))) : PT X a (tTruK K ta) := by
  subst hK
  exact pt_truth ha he
/-- what stood before an instance was made stands behind its making -/
theorem new_same {C x dx : Addr} {H H' : Hp} (nx : H x = none) (ndx : H dx = none) (k : ∀ b o, (upd (upd H dx (.own x)) x (.ins C dx [])) b = some o → b ≠ x → H' b = some o) : Same H H' := fun b o e => by
  refine k b o ?_ (ne_of_none e nx)
  rw [upd_ne (ne_of_none e nx), upd_ne (ne_of_none e ndx)]
  exact e

theorem cut_last (xs : List V) : cutV xs none (some (-1)) = xs.dropLast := by
  unfold cutV
  rw [HT.sIx_none, List.drop_zero, Nat.sub_zero, List.dropLast_eq_take]
  show xs.take (if (-1 : Int) < 0 then ((-1 : Int) + (xs.length : Int)).toNat else min (-1 : Int).toNat xs.length) = _
  rw [if_pos (by decide), show ((-1 : Int) + (xs.length : Int)).toNat = xs.length - 1 by omega]
theorem repl_any (n : Nat) : (List.replicate n false).any id = false := by
  rw [List.any_eq_false]
  intro x hx
  rw [(List.mem_replicate.mp hx).2]
  exact Bool.false_ne_true
theorem nv_appL (a b : List Nat) : nv a ++ nv b = nv (a ++ b) := by
  unfold nv natB
  rw [List.map_append, List.map_append]
theorem sqT_ty {K : PySem.W.Frag} {H : Hp} {a : Addr} {xs : List V} (h : SqT K H a xs) : TyX K H (.ref a) (.type "tuple") := by
  rcases h with (h | ⟨o, h⟩) | ⟨o, its, n, e, c, _⟩
  · exact .base (.tup h)
  · exact .fTuple h
  · exact .kTuple e c
end
end Tw

set_option Elab.async false
set_option linter.all false
set_option maxRecDepth 100000
set_option maxHeartbeats 2000000
namespace Tw
open PySem PySem.Spec PyProof.Rows L2
section
variable {P : Program} {w : World} {K : PySem.W.Frag} {mg : Str → Option Value} {base : Heap} {A : Ad}
/-! the program's own defs -/
theorem vi_nv (l : List Nat) : vi l = nv l := by
  unfold vi nv natB
  rw [List.map_map]
  rfl
theorem cut_first (l : List V) : cutV l (some 1) none = l.drop 1 := by
  unfold cutV
  rw [HT.sIx_none, show (1 : Int) = ((1 : Nat) : Int) from rfl, HT.sIx_nat]
  cases l with
  | nil => rfl
  | cons a l =>
    rw [Nat.min_eq_left (by simp), List.take_of_length_le (by rw [List.length_drop]; exact Nat.le_refl _)]
theorem nv_last (l : List Nat) : (nv l).dropLast = nv l.dropLast := by
  unfold nv natB
  rw [List.map_dropLast, List.map_dropLast]
theorem nv_drop (l : List Nat) (k : Nat) : (nv l).drop k = nv (l.drop k) := by
  unfold nv natB
  rw [List.map_drop, List.map_drop]
theorem nv_take (l : List Nat) (k : Nat) : (nv l).take k = nv (l.take k) := by
  unfold nv natB
  rw [List.map_take, List.map_take]
theorem nv_set (l : List Nat) (i x : Nat) : (nv l).set i (V.int (x : Nat)) = nv (l.set i x) := by
  unfold nv natB
  rw [List.map_set, List.map_set]
  rfl
theorem nv_repl (m : Nat) : (List.replicate m [V.int 0]).flatten = nv (List.replicate m 0) := by
  unfold nv natB
  rw [List.flatten_replicate_singleton, List.map_replicate, List.map_replicate]
  rfl
def spTs (C : Addr) : Sp := fun vs H Q _ => ∃ (n p r w : Nat), vs = [.int n, .int p, .int r, .int w] ∧ n ≤ 12 ∧ (1 ≤ w ∧ w ≤ 4) ∧ p < n ∧ r < n ∧ ∀ (H' : Hp) (x : Addr), Same H H' → TreeAt C H' x n w → Q (.ref x) H'
theorem ok_ts (T : Tx K mg A) : FnOk P w K mg base CX0 6 A.f_tree_of_standing A.d_tree_of_standing ["many", "place", "rank", "arms"] (spTs A.C) := by
  obtain ⟨mi, ki⟩ := kb_init T
  refine T.F_tree_of_standing.ok sc_tree_of_standing (fun vs H Q E h => ?_) (fun cdv B outer s H vs Q E hr h => ?_)
  · obtain ⟨n, p, r, w, rfl, _⟩ := h
    rfl
  · obtain ⟨n, p, r, w, rfl, hn12, hw, hp, hr2, q⟩ := h
    have nd := sc_tree_of_standing.nd
    refine ⟨_, PSs.nox (pss_cons (ps_set (i := 4) nd rfl (Or.inl rfl) (pe_makeK T.mkC (ok_init T) (hr.mono (by decide)) (by rfl) T.mC ki pass0 (pa_cons (pv 0) pa_nil) (pk_cons (pv 3) pk_nil)))
      (pss_cons (ps_expr (pe_call (ok_cp T) (hr.mono (by decide)) (by rfl) T.m_check_place T.F_check_place.kp (b_cp T) .nil pass0 (pa_cons (pv 1) (pa_cons (pv 0) pa_nil))))
      (pss_cons (ps_if (pt_not (pt_val (pe_call (ok_ii T) (hr.mono (by decide)) (by rfl) T.m_is_integer_from T.F_is_integer_from.kp (b_ii T) .nil pass0 (pa_cons (pv 2) (pa_cons pe_int (pa_cons (pe_op op_sub (pv 0) pe_int) pa_nil)))))) (pss_one ps_never) pss_nil)
      (pss_one (ps_ret (pv 4)))))), ?_⟩
    refine ⟨_, rfl, _, rfl, rfl, rfl, fun x dx nx ndx nex => ⟨x, dx, n, w, rfl, hn12, hw, upd_same, fun H1 k1 t1 => ?_⟩⟩
    have s1 := new_same nx ndx k1
    refine ⟨rfl, _, rfl, _, rfl, p, n, rfl, ⟨by omega, by omega⟩, ?_⟩
    refine ⟨_, rfl, _, rfl, _, _, rfl, rfl, _, _, _, rfl, .inl ⟨r, rfl, _, rfl, ?_⟩⟩
    rw [decide_eq_true (show (0 : Int) ≤ (r : Nat) ∧ ((r : Nat) : Int) ≤ (n : Nat) - 1 by omega)]
    exact iteF ⟨_, rfl, q _ _ s1 t1⟩
theorem b_ts (T : Tx K mg A) : L2.Binds K A.d_tree_of_standing ["many", "place", "rank", "arms"] [] := T.F_tree_of_standing.binds fun _ _ _ _ _ _ us hl => match us, hl with | [_, _, _, _], _ => rfl
def spPa (C : Addr) : Sp := fun vs H Q _ => ∃ (x n w p : Nat), vs = [.ref x, .int p] ∧ TreeAt C H x n w ∧ p < n ∧ 1 ≤ (wayL w p).length ∧ ∀ (H' : Hp) (q : Addr), Same H H' → H q = none → H' q = some (.tup (nv (abL w p))) → Q (.ref q) H'
theorem ok_pa (T : Tx K mg A) : FnOk P w K mg base CX0 6 A.f_places_above A.d_places_above ["tree", "place"] (spPa A.C) := by
  refine T.F_places_above.ok sc_places_above (fun vs H Q E h => ?_) (fun cdv B outer s H vs Q E hr h => ?_)
  · obtain ⟨x, n, w, p, rfl, _⟩ := h
    rfl
  · obtain ⟨x, n, w, p, rfl, t, hp, hl, q⟩ := h
    obtain ⟨dx, l, h1, h2⟩ := id t.ob
    have noW : (tf n w l).lookup ("way_to" : Str) = none := tf_no _ _ _ (by decide +kernel) (by decide +kernel) (by decide +kernel)
    refine ⟨_, (pss_one (ps_ret (pe_slice (r := rSlT K) sl_tup (pe_meth (pv 0) T.cT T.M_t_way_to (ok_way T) (hr.mono (by decide)) (b_way T) .nil pass0 (pa_cons (pv 1) pa_nil)) po_none (po_some (pe_un un_neg pe_int))))), ?_⟩
    refine ⟨_, rfl, x, dx, _, rfl, h1, noW, _, rfl, x, n, w, p, rfl, t, hp, fun H1 z s1 n1 e1 => ?_⟩
    rw [vi_nv] at e1
    refine ⟨_, rfl, _, rfl, z, _, rfl, SqT.of e1, (fun y => ?_), fun u nu => q _ u (s1.trans (Same.up nu)) (s1.free nu) ?_⟩
    · have y2 := y.2
      rw [nv_len] at y2
      have y3 : ((-1 : Int) + ((wayL w p).length : Nat)).toNat = (wayL w p).length := y2
      omega
    · rw [cut_last, nv_last]
      exact upd_same
theorem b_pa (T : Tx K mg A) : L2.Binds K A.d_places_above ["tree", "place"] [] := T.F_places_above.binds fun _ _ _ _ _ _ us hl => match us, hl with | [_, _], _ => rfl
def spPb (C : Addr) : Sp := fun vs H Q _ => ∃ (x n w p : Nat), vs = [.ref x, .int p] ∧ TreeAt C H x n w ∧ p < n ∧ 1 ≤ (subL n w p).length ∧ ∀ (H' : Hp) (q : Addr), Same H H' → H q = none → H' q = some (.tup (nv (beL n w p))) → Q (.ref q) H'
theorem ok_pb (T : Tx K mg A) : FnOk P w K mg base CX0 7 A.f_places_below A.d_places_below ["tree", "place"] (spPb A.C) := by
  refine T.F_places_below.ok sc_places_below (fun vs H Q E h => ?_) (fun cdv B outer s H vs Q E hr h => ?_)
  · obtain ⟨x, n, w, p, rfl, _⟩ := h
    rfl
  · obtain ⟨x, n, w, p, rfl, t, hp, hl, q⟩ := h
    obtain ⟨dx, l, h1, h2⟩ := id t.ob
    have noW : (tf n w l).lookup ("subtree" : Str) = none := tf_no _ _ _ (by decide +kernel) (by decide +kernel) (by decide +kernel)
    refine ⟨_, (pss_one (ps_ret (pe_slice (r := rSlT K) sl_tup (pe_meth (pv 0) T.cT T.M_t_subtree (ok_sub T) (hr.mono (by decide)) (b_sub T) .nil pass0 (pa_cons (pv 1) pa_nil)) (po_some pe_int) po_none))), ?_⟩
    refine ⟨_, rfl, x, dx, _, rfl, h1, noW, _, rfl, x, n, w, p, rfl, t, hp, fun H1 z s1 n1 e1 => ?_⟩
    rw [vi_nv] at e1
    refine ⟨_, rfl, z, _, rfl, SqT.of e1, (fun y => ?_), fun u nu => q _ u (s1.trans (Same.up nu)) (s1.free nu) ?_⟩
    · have y1 := y.1
      rw [nv_len] at y1
      have y3 : min 1 (subL n w p).length = 0 := y1
      omega
    · rw [cut_first, nv_drop]
      exact upd_same
theorem b_pb (T : Tx K mg A) : L2.Binds K A.d_places_below ["tree", "place"] [] := T.F_places_below.binds fun _ _ _ _ _ _ us hl => match us, hl with | [_, _], _ => rfl
def spRbo : Sp := fun vs H Q _ => ∃ (a : Addr) (l : List Nat), vs = [.ref a] ∧ H a = some (.lst (nv l)) ∧ l.length ≤ 12 ∧ (∀ x ∈ l, x < l.length) ∧ ∀ (H' : Hp) (t : Addr), Same H H' → H' t = some (.tup (nv (byO l))) → Q (.ref t) H'
theorem ok_rbo (T : Tx K mg A) : FnOk P w K mg base CX0 1 A.f_row_by_order A.d_row_by_order ["places"] spRbo := by
  refine T.F_row_by_order.ok sc_row_by_order (fun vs H Q E h => ?_) (fun cdv B outer s H vs Q E hr h => ?_)
  · obtain ⟨a, l, rfl, _⟩ := h
    rfl
  · obtain ⟨a, l, rfl, ha, hl, hs, q⟩ := h
    have nd := sc_row_by_order.nd
    refine ⟨_, (C8.pss_cut (ps_set (i := 1) nd rfl (Or.inl rfl) (pe_op op_rep (pe_lst (pa_cons pe_int pa_nil)) (pe_callB call_len_seq (by rfl) T.g_len PySem.boot_len (pa_cons (pv 0) pa_nil))))
      (C8.pss_cut (ps_for PassesOwn.never rfl (pi_enS (by rfl) T.g_enumerate (pa_cons (pv 0) pa_nil)) (pg_tup rfl (pgs_cons (pg_name (i := 2) nd rfl (Or.inl rfl)) (pgs_cons (pg_name (i := 3) nd rfl (Or.inl rfl)) pgs_nil))) (pss_one (ps_asg (pv 2) (pg_sub (pv 1) (pv 3) set_list))))
      (pss_one (ps_ret (pe_callTy call_tuple_of (by rfl) T.g_tuple (by decide +kernel) (pa_cons (pv 1) pa_nil)))))), ?_⟩
    refine ⟨fun σ' H' => ∃ R : Addr, σ' = [some (.ref a), some (.ref R), none, none] ∧ Acc H R (nv (byT l 0)) H', ?_, ?_⟩
    · refine ⟨by show 1 ≤ sizeLine; decide, fun l1 n1 => ?_⟩
      have s1 := Same.up (o := .lst [V.int 0]) n1
      refine ⟨_, rfl, a, _, rfl, .inl (SqL.of (s1 _ _ ha)), l1, ((nv l).length : Nat), _, rfl, rfl, upd_same, by omega, by rw [nv_len]; omega, ?_, fun l2 n2 => ⟨l2, rfl, ?_⟩⟩
      · show 1 * (((nv l).length : Nat) : Int).toNat ≤ sizeLine
        rw [nv_len, Int.toNat_natCast, sizeLine_eq]
        omega
      · rw [Int.toNat_natCast, nv_len, nv_repl]
        exact ⟨s1.trans (Same.up n2), s1.free n2, upd_same⟩
    rintro σ' H1 ⟨R, rfl, ac1⟩
    refine ⟨fun σ' H' => ∃ x2 x3 : Option V, σ' = [some (.ref a), some (.ref R), x2, x3] ∧ Acc H R (nv (byO l)) H', ?_, ?_⟩
    · refine ⟨_, rfl, a, _, rfl, .inl ⟨SqL.of (ac1.s _ _ ha), for_it (walk_enum (xs := nv l)) (fun i σ' H' => ∃ x2 x3 : Option V, σ' = [some (.ref a), some (.ref R), x2, x3] ∧ Acc H R (nv (byT l i)) H') ⟨none, none, rfl, ac1⟩ (fun i σ' H' _ ⟨_, _, _, ac⟩ => SqL.of (ac.s _ _ ha)) ?_ ?_⟩⟩
      · rintro i v σ' H2 H3 hi ⟨x2, x3, rfl, ac⟩ ⟨T', x, y, rfl, hT, rfl, e1, e2⟩
        obtain ⟨hi2, rfl⟩ := nv_at e2
        cases e1
        have ac3 := ac.same (Same.up (o := .tup [V.int (i : Nat), V.int (l[i] : Nat)]) hT)
        refine ⟨_, _, rfl, SqT.of upd_same, rfl, _, _, rfl, _, _, rfl, rfl, ?_⟩
        generalize upd H2 T' (.tup [V.int (i : Nat), V.int (l[i] : Nat)]) = G at ac3
        have hlt := hs _ (List.getElem_mem hi2)
        refine ⟨_, rfl, _, rfl, _, rfl, R, nv (byT l i), _, l[i], rfl, rfl, ac3.a, ?_, _, _, rfl, ?_⟩
        · unfold ixN
          rw [if_pos (by omega), Int.toNat_natCast, if_pos (by rw [nv_len, byT_len]; omega)]
        · rw [nv_set]
          have e : byT l (i + 1) = (byT l i).set l[i] i := by
            show (byT l i).set (l.getD i 0) i = _
            rw [List.getD_eq_getElem?_getD, List.getElem?_eq_getElem hi2]
            rfl
          rw [e]
          exact ⟨fun b o k => by rw [upd_ne (ne_of_none k ac3.n)]; exact ac3.s b o k, ac3.n, upd_same⟩
      · rintro σ' H2 ⟨x2, x3, rfl, ac⟩
        rw [nv_len] at ac
        exact ⟨x2, x3, rfl, ac⟩
    rintro σ' H2 ⟨x2, x3, rfl, ac⟩
    exact ⟨_, rfl, R, _, rfl, .inl ⟨SqL.of ac.a, fun u nu => q _ u (ac.s.trans (Same.up nu)) upd_same⟩⟩
theorem b_rbo (T : Tx K mg A) : L2.Binds K A.d_row_by_order ["places"] [] := T.F_row_by_order.binds fun _ _ _ _ _ _ us hl => match us, hl with | [_], _ => rfl
/-! what is told -/
def sfd (t : Nat) : List (Str × V) := putF "row" (.ref t) []
theorem sfd_row (t : Nat) : (sfd t).lookup ("row" : Str) = some (.ref t) := by
  unfold sfd
  rw [lookup_putF, if_pos rfl]
def StAt (C : Addr) (H : Hp) (p : Addr) (l : List Nat) : Prop := ∃ (dx t : Addr), H p = some (.ins C dx (sfd t)) ∧ H t = some (.tup (nv l))
theorem StAt.same {C : Addr} {H H' : Hp} {p : Addr} {l : List Nat} (h : StAt C H p l) (s : Same H H') : StAt C H' p l := by
  obtain ⟨dx, t, a, b⟩ := h
  exact ⟨dx, t, s _ _ a, s _ _ b⟩
theorem mb : ¬ (("word" : Str) = "places") := by decide +kernel
def bfd (x : Str) (t : Nat) : List (Str × V) := putF "places" (.ref t) (putF "word" (.str x) [])
theorem bfd_word (x : Str) (t : Nat) : (bfd x t).lookup ("word" : Str) = some (.str x) := by
  unfold bfd
  rw [lookup_putF, if_neg mb, lookup_putF, if_pos rfl]
theorem bfd_pl (x : Str) (t : Nat) : (bfd x t).lookup ("places" : Str) = some (.ref t) := by
  unfold bfd
  rw [lookup_putF, if_pos rfl]
def BaAt (C : Addr) (H : Hp) (p : Addr) (x : Str) (l : List Nat) : Prop := ∃ (dx t : Addr), H p = some (.ins C dx (bfd x t)) ∧ H t = some (.tup (nv l))
theorem BaAt.same {C : Addr} {H H' : Hp} {p : Addr} {x : Str} {l : List Nat} (h : BaAt C H p x l) (s : Same H H') : BaAt C H' p x l := by
  obtain ⟨dx, t, a, b⟩ := h
  exact ⟨dx, t, s _ _ a, s _ _ b⟩
end
end Tw

set_option Elab.async false
set_option linter.all false
set_option maxRecDepth 100000
set_option maxHeartbeats 2000000
namespace Tw
open PySem PySem.Spec PyProof.Rows L2
section
variable {P : Program} {w : World} {K : PySem.W.Frag} {mg : Str → Option Value} {base : Heap} {A : Ad}
def NoTup (H : Hp) (x : V) : Prop := x = .non ∨ (∃ i, x = .int i) ∨ (∃ s, x = .str s) ∨ (∃ (a : Addr) (xs : List V), x = .ref a ∧ H a = some (.lst xs)) ∨ (∃ (a : Addr) (kvs : List (Key × V)), x = .ref a ∧ H a = some (.dK kvs))
theorem NoTup.same {H H' : Hp} {x : V} (h : NoTup H x) (s : Same H H') : NoTup H' x := by
  rcases h with h | h | h | ⟨a, xs, e, h⟩ | ⟨a, xs, e, h⟩
  · exact .inl h
  · exact .inr (.inl h)
  · exact .inr (.inr (.inl h))
  · exact .inr (.inr (.inr (.inl ⟨a, xs, e, s _ _ h⟩)))
  · exact .inr (.inr (.inr (.inr ⟨a, xs, e, s _ _ h⟩)))
theorem NoTup.ty {H : Hp} {x : V} (h : NoTup H x) : ∃ t, TyX K H x (.type t) ∧ kitB t "tuple" = some false := by
  rcases h with rfl | ⟨i, rfl⟩ | ⟨z, rfl⟩ | ⟨a, xs, rfl, h⟩ | ⟨a, xs, rfl, h⟩
  · exact ⟨"NoneType", .base .non, by decide +kernel⟩
  · exact ⟨"int", .base (.int i), by decide +kernel⟩
  · exact ⟨"str", .base (.str z), by decide +kernel⟩
  · exact ⟨"list", .base (.lst h), by decide +kernel⟩
  · exact ⟨"dict", .base (.dK h), by decide +kernel⟩
def Odd (K : PySem.W.Frag) (H : Hp) (x : V) : Prop := x = .non ∨ (∃ b, x = .bl b) ∨ (∃ s, x = .str s) ∨ (∃ (a : Addr) (xs : List V), x = .ref a ∧ SqT K H a xs)
theorem Odd.same {H H' : Hp} {x : V} (h : Odd K H x) (s : Same H H') : Odd K H' x := by
  rcases h with h | h | h | ⟨a, xs, e, h⟩
  · exact .inl h
  · exact .inr (.inl h)
  · exact .inr (.inr (.inl h))
  · exact .inr (.inr (.inr ⟨a, xs, e, SqT.sm s h⟩))
theorem Odd.ty {H : Hp} {x : V} (h : Odd K H x) : ∃ t b1 b2, TyX K H x (.type t) ∧ kitB t "int" = some b1 ∧ kitB t "bool" = some b2 ∧ (b1 && !b2) = false := by
  rcases h with rfl | ⟨b, rfl⟩ | ⟨z, rfl⟩ | ⟨a, xs, rfl, h⟩
  · exact ⟨"NoneType", false, false, .base .non, by decide +kernel, by decide +kernel, rfl⟩
  · exact ⟨"bool", true, true, .base (.bl b), by decide +kernel, by decide +kernel, rfl⟩
  · exact ⟨"str", false, false, .base (.str z), by decide +kernel, by decide +kernel, rfl⟩
  · exact ⟨"tuple", false, false, sqT_ty h, by decide +kernel, by decide +kernel, rfl⟩
def Itm (K : PySem.W.Frag) (n : Nat) (H : Hp) (x : V) (b : Bool) : Prop := (∃ i, x = .int i ∧ b = decide (0 ≤ i ∧ i ≤ (n : Int) - 1)) ∨ (Odd K H x ∧ b = false)
theorem itms_same {n : Nat} {H H' : Hp} (s : Same H H') : ∀ {xs : List V} {bs : List Bool}, Paired (Itm K n H) xs bs → Paired (Itm K n H') xs bs
  | _, _, .nil => .nil
  | _, _, .cons h p => .cons (h.imp id fun z => ⟨z.1.same s, z.2⟩) (itms_same s p)
theorem itms_at {n : Nat} {H : Hp} : ∀ {xs : List V} {bs : List Bool} {i : Nat} {x : V}, Paired (Itm K n H) xs bs → xs[i]? = some x → ∃ hi : i < bs.length, Itm K n H x bs[i]
  | _, _, 0, _, .cons a _, e => ⟨Nat.succ_pos _, by rw [← Option.some.inj e]; exact a⟩
  | _, _, i + 1, _, .cons _ b, e => by
    obtain ⟨hi, r⟩ := itms_at b (by simpa using e)
    exact ⟨Nat.succ_lt_succ hi, r⟩
theorem ints_eqvL (a b : List Int) : PyData.eqv (.list (a.map PyData.int)) (.list (b.map PyData.int)) = decide (a = b) := by
  rw [← ints_all]
  simp [PyData.eqv]
theorem asc_same (l : List Nat) : decide (natB l = ascL (natB l)) = decide (l.Pairwise (· < ·)) := by
  refine decide_eq_decide.mpr ⟨fun h => ?_, fun h => ?_⟩
  · have := ascL_asc (natB l)
    rw [← h] at this
    unfold natB at this
    rw [List.pairwise_map] at this
    exact this.imp fun h => Int.ofNat_lt.mp h
  · refine asc_eq ?_ (ascL_asc _) fun x => ascL_mem.symm
    unfold natB
    rw [List.pairwise_map]
    exact h.imp fun h => Int.ofNat_lt.mpr h
theorem bls_snoc (bs : List Bool) {j : Nat} (h : j < bs.length) : (bs.take (j + 1)).map V.bl = (bs.take j).map V.bl ++ [V.bl bs[j]] := by
  rw [← List.take_append_getElem h, List.map_append]
  rfl
/-- a thing that is no set of places; or one that may be one -/
def NoSet (K : PySem.W.Frag) (n : Nat) (H : Hp) (x : V) : Prop := NoTup H x ∨ ∃ (a : Addr) (xs : List V) (bs : List Bool), x = .ref a ∧ SqT K H a xs ∧ xs.length ≤ 12 ∧ Paired (Itm K n H) xs bs ∧ false ∈ bs
theorem NoSet.same {n : Nat} {H H' : Hp} {x : V} (h : NoSet K n H x) (s : Same H H') : NoSet K n H' x := by
  rcases h with h | ⟨a, xs, bs, e, h1, h2, h3, h4⟩
  · exact .inl (h.same s)
  · exact .inr ⟨a, xs, bs, e, SqT.sm s h1, h2, itms_same s h3, h4⟩
def spIsp (K : PySem.W.Frag) : Sp := fun vs H Q _ => ∃ (x : V) (n : Nat), vs = [x, .int n] ∧ ((NoSet K n H x ∧ ∀ H' : Hp, Same H H' → Q (.bl false) H') ∨
  ∃ (a : Addr) (l : List Nat), x = .ref a ∧ SqT K H a (nv l) ∧ l.length ≤ 12 ∧ (∀ p ∈ l, p < n) ∧ ∀ H' : Hp, Same H H' → Q (.bl (decide (l.Pairwise (· < ·)))) H')
theorem ok_isp (T : Tx K mg A) : FnOk P w K mg base CX0 3 A.f_is_set_of_places A.d_is_set_of_places ["thing", "many"] (spIsp K) := by
  refine T.F_is_set_of_places.ok sc_is_set_of_places (fun vs H Q E h => ?_) (fun cdv B outer s H vs Q E hr h => ?_)
  · obtain ⟨x, n, rfl, _⟩ := h
    rfl
  · obtain ⟨x, n, rfl, h⟩ := h
    have nd := sc_is_set_of_places.nd
    have hu := hr.units
    refine ⟨_, (pss_cons (ps_if (PW.pt (pw_or (pt_not (pt_val (pe_callB call_isi (by rfl) T.g_isinstance (by decide +kernel) (pa_cons (pv 0) (pa_cons (pe_bltn (v := .ty "tuple") (by rfl) T.g_tuple (by decide +kernel) rfl) pa_nil))))) (pw_or1 (pt_not (pt_val (pe_callB (cr_all rfl) (by rfl) T.g_all (by decide +kernel) (pa_cons (pe_lc (own := [("item", 2)]) (g := gName 2) (tt := tYes) rfl nd (pi_tup (pv 0)) (blkOk_by (own := [("item", 2)]) (N := ["thing", "many", "item"]) (sc := (defScope s_is_set_of_places)) (by decide +kernel)) (fun _ _ _ _ _ => pg_name (i := 2) nd rfl (Or.inl rfl)) (fun _ _ _ _ _ => pts_nil) (fun _ _ _ _ _ => (pe_call (ok_ii T) (hr.mono (by decide)) (by rfl) T.m_is_integer_from T.F_is_integer_from.kp (b_ii T) .nil pass0 (pa_cons (pv 2) (pa_cons pe_int (pa_cons (pe_op op_sub (pv 1) pe_int) pa_nil)))))) pa_nil))))))) (pss_one (ps_ret pe_bl)) pss_nil)
      (pss_one (ps_ret (pe_cmpR (op_eqD hu) (pe_callTy call_list_of (by rfl) T.g_list (by decide +kernel) (pa_cons (pv 0) pa_nil)) (pe_callB (cr_sortedSet rfl) (by rfl) T.g_sorted (by decide +kernel) (pa_cons (pe_callTy (cr_setTI rfl) (by rfl) T.g_set (by decide +kernel) (pa_cons (pv 0) pa_nil)) pa_nil)) (nomark _))))), ?_⟩
    rcases h with ⟨h | ⟨a, xs, bs, rfl, ha, h12, hp, hf⟩, q⟩ | ⟨a, l, rfl, ha, h12, hlt, q⟩
    · obtain ⟨t, ty, k⟩ := NoTup.ty (K := K) h
      exact ⟨_, rfl, _, _, .type t, .type "tuple", false, rfl, .ty "tuple", ty, kit_ty k, false, rfl, iteT (iteT (q _ (Same.refl _)))⟩
    · refine ⟨_, rfl, _, _, .type "tuple", .type "tuple", true, rfl, .ty "tuple", sqT_ty ha, kit_ty (by decide +kernel), true, rfl, iteF ?_⟩
      have hbl : xs.length = bs.length := Paired.length hp
      refine ⟨_, rfl, a, rfl, ⟨_, ha⟩, fun D nD => ?_⟩
      refine lc_it (walk_tup (xs := xs)) (fun i H' => Acc H D ((bs.take i).map V.bl) H') (Acc.start nD) (fun i H' _ ac => SqT.sm ac.s ha) ?_ ?_
      · rintro j y H2o H2 hj ac ⟨rfl, hy⟩
        obtain ⟨hj2, it⟩ := itms_at (itms_same ac.s hp) hy
        refine ⟨rfl, iteT (B := Acc H D ((bs.take (j + 1)).map V.bl) H2) ?_⟩
        have fin : ∃ acc, H2 D = some (.lst acc) ∧ acc.length < sizeLine ∧ Acc H D ((bs.take (j + 1)).map V.bl) (upd H2 D (.lst (acc ++ [V.bl bs[j]]))) := by
          refine ⟨_, ac.a, by rw [List.length_map, List.length_take, sizeLine_eq]; omega, ?_⟩
          rw [bls_snoc bs hj2]
          exact ac.push
        refine ⟨_, rfl, _, rfl, _, _, rfl, rfl, _, _, _, rfl, ?_⟩
        rcases it with ⟨i, rfl, e⟩ | ⟨od, e⟩
        · refine .inl ⟨i, rfl, ?_⟩
          rw [← e]
          exact fin
        · obtain ⟨t, b1, b2, ty, k1, k2, k3⟩ := od.ty
          refine .inr ⟨t, b1, b2, ty, k1, k2, k3, ?_⟩
          rw [e] at fin
          exact fin
      · intro H2 ac
        rw [hbl, List.take_length] at ac
        refine ⟨D, bs, rfl, SqL.of ac.a, _, rfl, ?_⟩
        rw [show bs.all id = false from by
          rw [List.all_eq_false]
          exact ⟨false, hf, Bool.false_ne_true⟩]
        exact iteT (q _ ac.s)
    · refine ⟨_, rfl, _, _, .type "tuple", .type "tuple", true, rfl, .ty "tuple", sqT_ty ha, kit_ty (by decide +kernel), true, rfl, iteF ?_⟩
      refine ⟨_, rfl, a, rfl, ⟨_, ha⟩, fun D nD => ?_⟩
      refine lc_it (walk_tup (xs := nv l)) (fun i H' => Acc H D (List.replicate i (V.bl true)) H') (Acc.start nD) (fun i H' _ ac => SqT.sm ac.s ha) ?_ ?_
      · rintro j y H2o H2 hj ac ⟨rfl, hy⟩
        obtain ⟨hj2, rfl⟩ := nv_at hy
        have hb := hlt _ (List.getElem_mem hj2)
        refine ⟨rfl, iteT (B := Acc H D (List.replicate (j + 1) (V.bl true)) H2) ?_⟩
        refine ⟨_, rfl, _, rfl, _, _, rfl, rfl, _, _, _, rfl, Or.inl ⟨_, rfl, ?_⟩⟩
        rw [decide_eq_true (show (0 : Int) ≤ (l[j] : Nat) ∧ ((l[j] : Nat) : Int) ≤ (n : Int) - 1 by omega)]
        refine ⟨_, ac.a, by rw [List.length_replicate, sizeLine_eq]; omega, ?_⟩
        rw [show List.replicate (j + 1) (V.bl true) = List.replicate j (V.bl true) ++ [V.bl true] from List.replicate_succ']
        exact ac.push
      · intro H2 ac
        rw [nv_len] at ac
        refine ⟨D, List.replicate l.length true, rfl, SqL.of (by rw [ac.a, List.map_replicate]), _, rfl, ?_⟩
        rw [repl_all]
        refine iteF ?_
        have ha2 := SqT.sm ac.s ha
        refine ⟨_, rfl, a, _, rfl, .inr ha2, fun m nm => ?_⟩
        have s3 := Same.up (o := .lst (nv l)) nm
        have e3 : upd H2 m (.lst (nv l)) m = some (.lst (nv l)) := upd_same
        have ha3 := SqT.sm s3 ha2
        have s13 := ac.s.trans s3
        generalize upd H2 m (.lst (nv l)) = G3 at e3 ha3 s13
        refine ⟨_, rfl, a, natB l, rfl, ha3, by rw [natB_len]; omega, fun p k hk np => ?_⟩
        have s4 := Same.up (o := SetO w p (fun j => decide (j ∈ natB l)) k) np
        refine ⟨p, _, k, rfl, upd_same, by rw [natB_len] at hk; omega, fun ns p2 hasc hmem hlen np2 => ?_⟩
        have s5 := s4.trans (Same.up (o := .lst (ns.map V.int)) np2)
        obtain rfl : ns = ascL (natB l) := asc_eq hasc (ascL_asc _) fun x => by rw [hmem, decide_eq_true_eq, ascL_mem]
        refine ⟨.list ((natB l).map PyData.int), .list ((ascL (natB l)).map PyData.int), .lst (SqL.of (s5 _ _ e3)) (ints_dp _ _ _), .lst (SqL.of upd_same) (ints_dp _ _ _), shaped_ints _, shaped_ints _, ?_⟩
        rw [ints_eqvL, asc_same]
        exact q _ (s13.trans s5)
theorem b_isp (T : Tx K mg A) : L2.Binds K A.d_is_set_of_places ["thing", "many"] [] := T.F_is_set_of_places.binds fun _ _ _ _ _ _ us hl => match us, hl with | [_, _], _ => rfl
theorem nv_getD {l : List Nat} {p : Nat} (h : p < l.length) : (nv l)[p]? = some (V.int (l.getD p 0 : Nat)) := by
  rw [nv_get h, List.getD_eq_getElem?_getD, List.getElem?_eq_getElem h]
  rfl
theorem rng_asc (c : Nat) : (natB (List.range c)).Pairwise (· ≤ ·) := by
  unfold natB
  rw [List.pairwise_map]
  exact List.pairwise_lt_range.imp fun h => Int.ofNat_le.mpr (Nat.le_of_lt h)
/-! general promises: any rows, any places -/
theorem inV_int (i : Int) : ∀ ns : List Int, inV (V.int i) (ns.map V.int) = decide (i ∈ ns)
  | [] => by simp [inV]
  | a :: ns => by
    have ih := inV_int i ns
    unfold inV at ih ⊢
    show (eqV (V.int a) (V.int i) || (ns.map V.int).any fun y => eqV y (V.int i)) = _
    rw [ih]
    by_cases h : i = a
    · subst h
      rw [show eqV (V.int i) (V.int i) = true from decide_eq_true rfl, Bool.true_or, decide_eq_true List.mem_cons_self]
    · rw [show eqV (V.int a) (V.int i) = false from decide_eq_false (fun z => h (by have : a = i := z; exact this.symm)), Bool.false_or]
      exact decide_eq_decide.mpr ⟨fun z => List.mem_cons_of_mem _ z, fun z => (List.mem_cons.mp z).resolve_left h⟩
theorem int_at {ns : List Int} {i : Nat} {x : V} (h : (ns.map V.int)[i]? = some x) : ∃ hi : i < ns.length, x = V.int ns[i] := by
  rw [List.getElem?_map] at h
  by_cases hi : i < ns.length
  · rw [List.getElem?_eq_getElem hi] at h
    exact ⟨hi, (Option.some.inj h).symm⟩
  · rw [List.getElem?_eq_none (by omega)] at h
    cases h
theorem int_getD {l : List Int} {p : Nat} (h : p < l.length) : (l.map V.int)[p]? = some (V.int (l.getD p 0)) := by
  rw [List.getElem?_map, List.getD_eq_getElem?_getD, List.getElem?_eq_getElem h]
  rfl
def spFull : Sp := fun vs H Q _ => ∃ (a n : Nat) (ns : List Int), vs = [.ref a, .int n] ∧ H a = some (.tup (ns.map V.int)) ∧ ns.length ≤ 12 ∧ n ≤ 12 ∧ ∀ H' : Hp, Same H H' → Q (.bl (ns.isPerm (natB (List.range n)))) H'
theorem ok_full (T : Tx K mg A) : FnOk P w K mg base CX0 3 A.f_is_full A.d_is_full ["thing", "many"] spFull := by
  refine T.F_is_full.ok sc_is_full (fun vs H Q E h => ?_) (fun cdv B outer s H vs Q E hr h => ?_)
  · obtain ⟨a, n, ns, rfl, _⟩ := h
    rfl
  · obtain ⟨a, n, ns, rfl, ha, h12, hn, q⟩ := h
    have nd := sc_is_full.nd
    have hu := hr.units
    refine ⟨_, (pss_one (ps_ret (pe_and (pe_callB (cr_all rfl) (by rfl) T.g_all (by decide +kernel) (pa_cons (pe_lc (own := [("item", 2)]) (g := gName 2) (tt := tYes) rfl nd (pi_or (pi_list (pv 0)) (pi_tup (pv 0))) (blkOk_by (own := [("item", 2)]) (N := ["thing", "many", "item"]) (sc := (defScope s_is_full)) (by decide +kernel)) (fun _ _ _ _ _ => pg_name (i := 2) nd rfl (Or.inl rfl)) (fun _ _ _ _ _ => pts_nil) (fun _ _ _ _ _ => (pe_call (ok_ii T) (hr.mono (by decide)) (by rfl) T.m_is_integer_from T.F_is_integer_from.kp (b_ii T) .nil pass0 (pa_cons (pv 2) (pa_cons pe_int (pa_cons (pe_op op_sub (pv 1) pe_int) pa_nil)))))) pa_nil)) (pe_one (pe_cmpR (op_eqD hu) (pe_callB (cr_or cr_sortedI cr_sortedTu) (by rfl) T.g_sorted (by decide +kernel) (pa_cons (pv 0) pa_nil)) (pe_listRg rfl (by rfl) T.g_list (prg_1 (by rfl) T.g_range (pv 1))) (nomark _)))))), ?_⟩
    obtain ⟨bs, eb⟩ : ∃ bs, bs = ns.map fun x => decide (0 ≤ x ∧ x ≤ (n : Int) - 1) := ⟨_, rfl⟩
    have hbl : bs.length = ns.length := by rw [eb, List.length_map]
    refine .inr ⟨_, rfl, a, rfl, ⟨_, SqT.of ha⟩, fun D nD => ?_⟩
    refine lc_it (walk_tup (xs := ns.map V.int)) (fun i H' => Acc H D ((bs.take i).map V.bl) H') (Acc.start nD) (fun i H' _ ac => SqT.of (ac.s _ _ ha)) ?_ ?_
    · rintro j y H2o H2 hj ac ⟨rfl, hy⟩
      obtain ⟨hj2, rfl⟩ := int_at hy
      have hj3 : j < bs.length := by omega
      have ej : bs[j] = decide (0 ≤ ns[j] ∧ ns[j] ≤ (n : Int) - 1) := by
        subst eb
        rw [List.getElem_map]
      refine ⟨rfl, iteT (B := Acc H D ((bs.take (j + 1)).map V.bl) H2) ?_⟩
      refine ⟨_, rfl, _, rfl, _, _, rfl, rfl, _, _, _, rfl, Or.inl ⟨_, rfl, ?_⟩⟩
      refine ⟨_, ac.a, by rw [List.length_map, List.length_take, sizeLine_eq]; omega, ?_⟩
      rw [bls_snoc bs hj3, ej]
      exact ac.push
    · intro H2 ac
      rw [List.length_map, ← hbl, List.take_length] at ac
      refine ⟨D, bs, rfl, SqL.of ac.a, ?_⟩
      by_cases hall : bs.all id = true
      · rw [hall]
        refine ⟨true, rfl, iteT ?_⟩
        refine ⟨_, rfl, .inr ⟨a, ns, rfl, SqT.of (ac.s _ _ ha), fun ns' q2 perm srt n2 => ?_⟩⟩
        have s2 := ac.s.trans (Same.up (o := .lst (ns'.map V.int)) n2)
        refine ⟨_, rfl, _, rfl, RgOk.of_le (by omega) (by omega) (by omega) (by omega), fun l nl => ?_⟩
        rw [nv_rg]
        refine ⟨.list (ns'.map PyData.int), .list ((natB (List.range n)).map PyData.int), .lst (SqL.of ((Same.up nl) _ _ upd_same)) (ints_dp _ _ _), .lst (SqL.of upd_same) (ints_dp _ _ _), shaped_ints _, shaped_ints _, ?_⟩
        rw [ints_eqvL, show decide (ns' = natB (List.range n)) = ns.isPerm (natB (List.range n)) from by
          rw [Bool.eq_iff_iff, decide_eq_true_eq, List.isPerm_iff]
          exact ⟨fun e => by rw [← e]; exact perm.symm, fun e => sorted_one (perm.trans e) srt (rng_asc n)⟩]
        exact q _ (s2.trans (Same.up nl))
      · rw [Bool.eq_false_iff.mpr hall]
        refine ⟨false, rfl, iteF ?_⟩
        rw [show ns.isPerm (natB (List.range n)) = false from by
          refine Bool.eq_false_iff.mpr fun z => hall ?_
          rw [List.isPerm_iff] at z
          rw [eb, List.all_map, List.all_eq_true]
          intro x hx
          obtain ⟨y, hy, rfl⟩ := List.mem_map.mp (z.mem_iff.mp hx)
          have := List.mem_range.mp hy
          show decide ((0 : Int) ≤ (y : Int) ∧ (y : Int) ≤ (n : Int) - 1) = true
          rw [decide_eq_true_eq]
          omega] at q
        exact q _ ac.s
theorem b_full (T : Tx K mg A) : L2.Binds K A.d_is_full ["thing", "many"] [] := T.F_is_full.binds fun _ _ _ _ _ _ us hl => match us, hl with | [_, _], _ => rfl
def spAa (K : PySem.W.Frag) : Sp := fun vs H Q _ => ∃ (a b : Addr) (ns : List Int) (m : List Nat), vs = [.ref a, .ref b] ∧ H a = some (.tup (ns.map V.int)) ∧ H b = some (.tup (nv m)) ∧ ns.length ≤ 12 ∧ ∀ H' : Hp, Same H H' → Q (.bl (amB ns m)) H'
theorem ok_aa (T : Tx K mg A) : FnOk P w K mg base CX0 1 A.f_are_among A.d_are_among ["places", "others"] (spAa K) := by
  refine T.F_are_among.ok sc_are_among (fun vs H Q E h => ?_) (fun cdv B outer s H vs Q E hr h => ?_)
  · obtain ⟨a, b, l, m, rfl, _⟩ := h
    rfl
  · obtain ⟨a, b, ns, m, rfl, ha, hb, hl, q⟩ := h
    have nd := sc_are_among.nd
    refine ⟨_, (pss_one (ps_ret (pe_callB (cr_all rfl) (by rfl) T.g_all (by decide +kernel) (pa_cons (pe_lc (own := [("place", 2)]) (g := gName 2) (tt := tYes) rfl nd (pi_tup (pv 0)) (blkOk_by (own := [("place", 2)]) (N := ["places", "others", "place"]) (sc := (defScope s_are_among)) (by decide +kernel)) (fun _ _ _ _ _ => pg_name (i := 2) nd rfl (Or.inl rfl)) (fun _ _ _ _ _ => pts_nil) (fun _ _ _ _ _ => (pe_cmpR (r := L2.rIn K false) op_in_seq (pv 2) (pv 1) (by rfl)))) pa_nil)))), ?_⟩
    obtain ⟨bs, eb⟩ : ∃ bs, bs = ns.map fun x => decide (x ∈ natB m) := ⟨_, rfl⟩
    have hbl : bs.length = ns.length := by rw [eb, List.length_map]
    refine ⟨_, rfl, a, rfl, ⟨_, SqT.of ha⟩, fun D nD => ?_⟩
    refine lc_it (walk_tup (xs := ns.map V.int)) (fun i H' => Acc H D ((bs.take i).map V.bl) H') (Acc.start nD) (fun i H' _ ac => SqT.of (ac.s _ _ ha)) ?_ ?_
    · rintro j y H2o H2 hj ac ⟨rfl, hy⟩
      obtain ⟨hj2, rfl⟩ := int_at hy
      have hj3 : j < bs.length := by omega
      have ej : bs[j] = decide (ns[j] ∈ natB m) := by
        subst eb
        rw [List.getElem_map]
      refine ⟨rfl, iteT (B := Acc H D ((bs.take (j + 1)).map V.bl) H2) ?_⟩
      refine ⟨_, rfl, _, rfl, b, _, rfl, .inr (SqT.of (ac.s _ _ hb)), rfl, nv_flat _, ?_⟩
      rw [if_neg Bool.false_ne_true, inV_int, ← ej]
      refine ⟨_, ac.a, by rw [List.length_map, List.length_take, sizeLine_eq]; omega, ?_⟩
      rw [bls_snoc bs hj3]
      exact ac.push
    · intro H2 ac
      rw [List.length_map, ← hbl, List.take_length] at ac
      refine ⟨D, bs, rfl, SqL.of ac.a, ?_⟩
      rw [show bs.all id = amB ns m from by
        rw [eb, List.all_map]
        rfl]
      exact q _ ac.s
theorem b_aa (T : Tx K mg A) : L2.Binds K A.d_are_among ["places", "others"] [] := T.F_are_among.binds fun _ _ _ _ _ _ us hl => match us, hl with | [_, _], _ => rfl
theorem kih (T : Tx K mg A) : ∃ mv : List Value, KBn K A.d_is_heap ["row", "arms"] 1 ["arms"] (fun us ws => us ++ (mv ++ ws)) (fun vs zs => vs ++ zs) := by
  obtain ⟨mv, h⟩ := T.F_is_heap.kbinds0 (ps := ["row", "arms"]) 1 ["arms"] [] (fun us mv ws => us ++ (mv ++ ws)) (by simp) (by simp) (fun r1 r2 r3 => r1.append (r2.append r3))
    (fun D doc pm an cdv ct us mv ws h1 h2 h3 => by
      match us, mv, ws, h1, h2, h3 with
      | [a], [], [c], _, _, _ => rfl)
  exact ⟨mv, h⟩
def spIfh : Sp := fun vs H Q _ => ∃ (a n w : Nat) (ns : List Int), vs = [.ref a, .int n, .int w] ∧ H a = some (.tup (ns.map V.int)) ∧ ns.length ≤ 12 ∧ n ≤ 12 ∧ (1 ≤ w ∧ w ≤ 4) ∧ ∀ H' : Hp, Same H H' → Q (.bl (fhB n w ns)) H'
theorem ok_ifh (T : Tx K mg A) : FnOk P w K mg base CX0 9 A.f_is_full_heap A.d_is_full_heap ["row", "many", "arms"] spIfh := by
  obtain ⟨mi, kih⟩ := kih T
  refine T.F_is_full_heap.ok sc_is_full_heap (fun vs H Q E h => ?_) (fun cdv B outer s H vs Q E hr h => ?_)
  · obtain ⟨a, n, w, l, rfl, _⟩ := h
    rfl
  · obtain ⟨a, n, w, ns, rfl, ha, hl, hn, hw, q⟩ := h
    refine ⟨_, (pss_one (ps_ret (pe_and (pe_call (ok_full T) (hr.mono (by decide)) (by rfl) T.m_is_full T.F_is_full.kp (b_full T) .nil pass0 (pa_cons (pv 0) (pa_cons (pv 1) pa_nil))) (pe_one (pe_callN (ok_ish T) (hr.mono (by decide)) (by rfl) T.m_is_heap T.F_is_heap.kp kih pass0 (pa_cons (pv 0) pa_nil) (pk_cons (pv 2) pk_nil)))))), ?_⟩
    unfold fhB at q
    refine ⟨_, rfl, _, rfl, a, n, ns, rfl, ha, hl, hn, fun H1 s1 => ?_⟩
    by_cases hp : ns.isPerm (natB (List.range n)) = true
    · rw [hp]
      rw [hp, Bool.true_and] at q
      have pm := List.isPerm_iff.mp hp
      have hrow : RowIn H a ns := ⟨.inr ha, hl, fun z hz => by
        obtain ⟨x, hx, rfl⟩ := List.mem_map.mp (pm.mem_iff.mp hz)
        have := List.mem_range.mp hx
        refine ⟨by show (-1000000000 : Int) ≤ (x : Int); omega, by show (x : Int) ≤ 1000000000; omega⟩⟩
      refine ⟨_, rfl, iteT ?_⟩
      exact ⟨_, rfl, _, rfl, rfl, rfl, a, w, ns, rfl, hw, hrow.same s1, fun H2 s2 => q _ (s1.trans s2)⟩
    · rw [Bool.eq_false_iff.mpr hp]
      rw [Bool.eq_false_iff.mpr hp, Bool.false_and] at q
      exact ⟨_, rfl, iteF (q _ s1)⟩
theorem b_ifh (T : Tx K mg A) : L2.Binds K A.d_is_full_heap ["row", "many", "arms"] [] := T.F_is_full_heap.binds fun _ _ _ _ _ _ us hl => match us, hl with | [_, _, _], _ => rfl
/-! the two kinds of evidence -/
def StI (C : Addr) (H : Hp) (p : Addr) (ns : List Int) : Prop := ∃ (dx t : Addr), H p = some (.ins C dx (sfd t)) ∧ H t = some (.tup (ns.map V.int))
theorem StI.same {C : Addr} {H H' : Hp} {p : Addr} {l : List Int} (h : StI C H p l) (s : Same H H') : StI C H' p l := by
  obtain ⟨dx, t, a, b⟩ := h
  exact ⟨dx, t, s _ _ a, s _ _ b⟩
def BaI (C : Addr) (H : Hp) (p : Addr) (x : Str) (ns : List Int) : Prop := ∃ (dx t : Addr), H p = some (.ins C dx (bfd x t)) ∧ H t = some (.tup (ns.map V.int))
theorem BaI.same {C : Addr} {H H' : Hp} {p : Addr} {x : Str} {l : List Int} (h : BaI C H p x l) (s : Same H H') : BaI C H' p x l := by
  obtain ⟨dx, t, a, b⟩ := h
  exact ⟨dx, t, s _ _ a, s _ _ b⟩
def spSi (C : Addr) : Sp := fun vs H Q _ => ∃ (p dx a : Nat) (ns : List Int), vs = [.ref p, .ref a] ∧ H p = some (.ins C dx []) ∧ Sq H a (ns.map V.int) ∧ ∀ (H' : Hp), (∀ b o, H b = some o → b ≠ p → H' b = some o) → StI C H' p ns → Q .non H'
theorem ok_si (T : Tx K mg A) : FnOk P w K mg base CX0 1 A.f_s___init__ A.d_s___init__ ["self", "row"] (spSi A.CS) := by
  refine T.F_s___init__.ok sc_s___init__ (fun vs H Q E h => ?_) (fun cdv B outer s H vs Q E hr h => ?_)
  · obtain ⟨p, dx, a, l, rfl, _⟩ := h
    rfl
  · obtain ⟨p, dx, a, ns, rfl, hp, ha, q⟩ := h
    refine ⟨_, (pss_one (ps_fld (pv 0) (pe_callTy call_tuple_of (by rfl) T.g_tuple (by decide +kernel) (pa_cons (pv 1) pa_nil)) rfl)), ?_⟩
    rcases ha with ha | ha
    · refine ⟨_, rfl, a, _, rfl, .inl ⟨SqL.of ha, fun u nu => ?_⟩⟩
      have npu : u ≠ p := fun z => by rw [z, hp] at nu; cases nu
      refine ⟨_, rfl, p, A.CS, dx, _, rfl, (Same.up nu) _ _ hp, T.cTS, T.sRow, (by show 0 < 1000; decide), ?_⟩
      exact q _ (fun b o e hb => by rw [upd_ne hb]; exact (Same.up nu) _ _ e) ⟨dx, u, upd_same, by rw [upd_ne npu]; exact upd_same⟩
    · have npa : a ≠ p := fun z => by rw [z, hp] at ha; cases ha
      refine ⟨_, rfl, a, _, rfl, .inr ⟨SqT.of ha, _, rfl, p, A.CS, dx, _, rfl, hp, T.cTS, T.sRow, (by show 0 < 1000; decide), ?_⟩⟩
      exact q _ (fun b o e hb => by rw [upd_ne hb]; exact e) ⟨dx, a, upd_same, by rw [upd_ne npa]; exact ha⟩
theorem b_si (T : Tx K mg A) : L2.Binds K A.d_s___init__ ["self", "row"] [] := T.F_s___init__.binds fun _ _ _ _ _ _ us hl => match us, hl with | [_, _], _ => rfl
def spBi (C : Addr) : Sp := fun vs H Q _ => ∃ (p dx a : Nat) (x : Str) (ns : List Int), vs = [.ref p, .str x, .ref a] ∧ H p = some (.ins C dx []) ∧ Sq H a (ns.map V.int) ∧ ∀ (H' : Hp), (∀ b o, H b = some o → b ≠ p → H' b = some o) → BaI C H' p x ns → Q .non H'
theorem ok_bi (T : Tx K mg A) : FnOk P w K mg base CX0 1 A.f_b___init__ A.d_b___init__ ["self", "word", "places"] (spBi A.CB) := by
  refine T.F_b___init__.ok sc_b___init__ (fun vs H Q E h => ?_) (fun cdv B outer s H vs Q E hr h => ?_)
  · obtain ⟨p, dx, a, x, l, rfl, _⟩ := h
    rfl
  · obtain ⟨p, dx, a, x, ns, rfl, hp, ha, q⟩ := h
    refine ⟨_, (pss_cons (ps_fld (pv 0) (pv 1) rfl)
      (pss_one (ps_fld (pv 0) (pe_callTy call_tuple_of (by rfl) T.g_tuple (by decide +kernel) (pa_cons (pv 2) pa_nil)) rfl))), ?_⟩
    refine ⟨_, rfl, _, rfl, p, A.CB, dx, _, rfl, hp, T.cTB, T.bWord, (by show 0 < 1000; decide), ?_⟩
    rcases ha with ha | ha
    · have npa : a ≠ p := fun z => by rw [z, hp] at ha; cases ha
      refine ⟨_, rfl, a, _, rfl, .inl ⟨SqL.of (by rw [upd_ne npa]; exact ha), fun u nu => ?_⟩⟩
      have npu : u ≠ p := fun z => by rw [z, upd_same] at nu; cases nu
      refine ⟨_, rfl, p, A.CB, dx, _, rfl, (Same.up nu) _ _ upd_same, T.cTB, T.bPl, (by show 1 < 1000; decide), ?_⟩
      exact q _ (fun b o e hb => by rw [upd_ne hb]; exact (Same.up nu) _ _ (by rw [upd_ne hb]; exact e)) ⟨dx, u, upd_same, by rw [upd_ne npu]; exact upd_same⟩
    · have npa : a ≠ p := fun z => by rw [z, hp] at ha; cases ha
      refine ⟨_, rfl, a, _, rfl, .inr ⟨SqT.of (by rw [upd_ne npa]; exact ha), _, rfl, p, A.CB, dx, _, rfl, upd_same, T.cTB, T.bPl, (by show 1 < 1000; decide), ?_⟩⟩
      exact q _ (fun b o e hb => by rw [upd_ne hb, upd_ne hb]; exact e) ⟨dx, a, upd_same, by rw [upd_ne npa, upd_ne npa]; exact ha⟩
theorem b_bi (T : Tx K mg A) : L2.Binds K A.d_b___init__ ["self", "word", "places"] [] := T.F_b___init__.binds fun _ _ _ _ _ _ us hl => match us, hl with | [_, _, _], _ => rfl
def spSs (C : Addr) : Sp := fun vs H Q _ => ∃ (o n p r w : Nat) (ns : List Int), vs = [.ref o, .int n, .int p, .int r, .int w] ∧ StI C H o ns ∧ ns.length ≤ 12 ∧ n ≤ 12 ∧ (1 ≤ w ∧ w ≤ 4) ∧ p < n ∧ r < n ∧
  ∀ H' : Hp, Same H H' → Q (.bl (fhB n w ns && decide (ns.getD p 0 = (r : Int)))) H'
theorem ok_ss (T : Tx K mg A) : FnOk P w K mg base CX0 10 A.f_s_shows A.d_s_shows ["self", "many", "place", "rank", "arms"] (spSs A.CS) := by
  refine T.F_s_shows.ok sc_s_shows (fun vs H Q E h => ?_) (fun cdv B outer s H vs Q E hr h => ?_)
  · obtain ⟨o, n, p, r, w, l, rfl, _⟩ := h
    rfl
  · obtain ⟨o, n, p, r, w, ns, rfl, ho, hl, hn, hw, hp, hr2, q⟩ := h
    refine ⟨_, (pss_cons (ps_expr (pe_call (ok_ts T) (hr.mono (by decide)) (by rfl) T.m_tree_of_standing T.F_tree_of_standing.kp (b_ts T) .nil pass0 (pa_cons (pv 1) (pa_cons (pv 2) (pa_cons (pv 3) (pa_cons (pv 4) pa_nil))))))
      (pss_one (ps_ret (pe_and (pe_call (ok_ifh T) (hr.mono (by decide)) (by rfl) T.m_is_full_heap T.F_is_full_heap.kp (b_ifh T) .nil pass0 (pa_cons (pe_fld (pv 0) rfl) (pa_cons (pv 1) (pa_cons (pv 4) pa_nil)))) (pe_one (pe_cmpR op_eq (pe_ix (r := rIxT K) ix_tup (pe_fld (pv 0) rfl) (pv 2) (fun _ _ => rfl)) (pv 3) (nomark _))))))), ?_⟩
    refine ⟨_, rfl, _, rfl, _, rfl, _, rfl, n, p, r, w, rfl, hn, hw, hp, hr2, fun H1 x s1 t1 => ?_⟩
    obtain ⟨dx, t, g1, g2⟩ := ho.same s1
    refine ⟨_, rfl, o, A.CS, dx, _, _, rfl, g1, T.cTS, T.sRow, sfd_row _, _, rfl, _, rfl, t, n, w, ns, rfl, g2, hl, hn, hw, fun H2 s2 => ?_⟩
    by_cases hf : fhB n w ns = true
    · rw [hf] at q ⊢
      rw [Bool.true_and] at q
      have hlen : ns.length = n := by
        unfold fhB at hf
        have := (List.isPerm_iff.mp (Bool.and_eq_true_iff.mp hf).1).length_eq
        unfold natB at this
        rw [List.length_map, List.length_range] at this
        exact this
      refine ⟨_, rfl, iteT ?_⟩
      refine ⟨_, rfl, o, A.CS, dx, _, _, rfl, s2 _ _ g1, T.cTS, T.sRow, sfd_row _, _, rfl, t, _, _, _, rfl, rfl, SqT.of (s2 _ _ g2), atI_nat (int_getD (by omega)), _, rfl, rfl, ?_⟩
      rw [show decide (V.int (ns.getD p 0) = V.int (r : Int)) = decide (ns.getD p 0 = (r : Int)) from decide_eq_decide.mpr ⟨fun z => by injection z, fun z => by rw [z]⟩]
      exact q _ (s1.trans s2)
    · rw [Bool.eq_false_iff.mpr hf] at q ⊢
      rw [Bool.false_and] at q
      exact ⟨_, rfl, iteF (q _ (s1.trans s2))⟩
theorem kss (T : Tx K mg A) : ∃ mv : List Value, KBn K A.d_s_shows ["self", "many", "place", "rank", "arms"] 4 ["arms"] (fun us ws => us ++ (mv ++ ws)) (fun vs zs => vs ++ zs) := by
  obtain ⟨mv, h⟩ := T.F_s_shows.kbinds0 (ps := ["self", "many", "place", "rank", "arms"]) 4 ["arms"] [] (fun us mv ws => us ++ (mv ++ ws)) (by simp) (by simp) (fun r1 r2 r3 => r1.append (r2.append r3))
    (fun D doc pm an cdv ct us mv ws h1 h2 h3 => by
      match us, mv, ws, h1, h2, h3 with
      | [a, b, c, d], [], [e], _, _, _ => rfl)
  exact ⟨mv, h⟩
def brB (n w p r : Nat) (x : Str) (ns : List Int) : Bool := setB n ns && (if x = ("ahead" : Str) then decide ((r : Int) < (ns.length : Nat)) && amB ns (abL w p) else if x = ("behind" : Str) then decide (((n : Int) - 1 - (r : Int)) < (ns.length : Nat)) && amB ns (beL n w p) else false)
theorem nat_of {n : Nat} : ∀ {ns : List Int}, ns.all (fun x => decide (0 ≤ x ∧ x ≤ (n : Int) - 1)) = true → ∃ l : List Nat, ns = natB l ∧ ∀ p ∈ l, p < n
  | [], _ => ⟨[], rfl, fun p hp => by cases hp⟩
  | x :: ns, h => by
    rw [List.all_cons, Bool.and_eq_true, decide_eq_true_eq] at h
    obtain ⟨l, rfl, hl⟩ := nat_of h.2
    refine ⟨x.toNat :: l, ?_, fun p hp => ?_⟩
    · show x :: natB l = Int.ofNat x.toNat :: natB l
      rw [show Int.ofNat x.toNat = x from Int.toNat_of_nonneg h.1.1]
    · rcases List.mem_cons.mp hp with rfl | hp
      · have := h.1
        omega
      · exact hl p hp
theorem itms_ints {n : Nat} {H : Hp} : ∀ ns : List Int, Paired (Itm K n H) (ns.map V.int) (ns.map fun x => decide (0 ≤ x ∧ x ≤ (n : Int) - 1))
  | [] => .nil
  | x :: ns => .cons (.inl ⟨x, rfl, rfl⟩) (itms_ints ns)
theorem isp_ints {H : Hp} {t n : Nat} {ns : List Int} {Q : VK} {E : XK} (h : H t = some (.tup (ns.map V.int))) (hl : ns.length ≤ 12) (q : ∀ H' : Hp, Same H H' → Q (.bl (setB n ns)) H') : spIsp K [.ref t, .int n] H Q E := by
  refine ⟨.ref t, n, rfl, ?_⟩
  unfold setB at q
  by_cases hr : ns.all (fun x => decide (0 ≤ x ∧ x ≤ (n : Int) - 1)) = true
  · obtain ⟨l, rfl, hl2⟩ := nat_of hr
    refine .inr ⟨t, l, rfl, SqT.of h, by rw [natB_len] at hl; exact hl, hl2, fun H' s => ?_⟩
    have := q H' s
    rw [hr, Bool.true_and, show decide ((natB l).Pairwise (· < ·)) = decide (l.Pairwise (· < ·)) from decide_eq_decide.mpr (by
      unfold natB
      rw [List.pairwise_map]
      exact ⟨fun h => h.imp fun z => Int.ofNat_lt.mp z, fun h => h.imp fun z => Int.ofNat_lt.mpr z⟩)] at this
    exact this
  · refine .inl ⟨.inr ⟨t, _, _, rfl, SqT.of h, by rw [List.length_map]; exact hl, itms_ints ns, ?_⟩, fun H' s => ?_⟩
    · rw [Bool.eq_false_iff.mpr hr |> fun (z : _ = false) => (rfl : (false = false))]
      have hz := Bool.eq_false_iff.mpr hr
      rw [List.all_eq_false] at hz
      obtain ⟨x, hx, hx2⟩ := hz
      rw [List.mem_map]
      exact ⟨x, hx, Bool.eq_false_iff.mpr hx2⟩
    · have := q H' s
      rw [Bool.eq_false_iff.mpr hr, Bool.false_and] at this
      exact this
def spBs (C : Addr) : Sp := fun vs H Q _ => ∃ (o n p r w : Nat) (x : Str) (ns : List Int), vs = [.ref o, .int n, .int p, .int r, .int w] ∧ BaI C H o x ns ∧ ns.length ≤ 12 ∧ n ≤ 12 ∧ (1 ≤ w ∧ w ≤ 4) ∧ p < n ∧ r < n ∧ PlOk n w p ∧
  ∀ H' : Hp, Same H H' → Q (.bl (brB n w p r x ns)) H'
theorem ok_bs (T : Tx K mg A) : FnOk P w K mg base CX0 8 A.f_b_shows A.d_b_shows ["self", "many", "place", "rank", "arms"] (spBs A.CB) := by
  refine T.F_b_shows.ok sc_b_shows (fun vs H Q E h => ?_) (fun cdv B outer s H vs Q E hr h => ?_)
  · obtain ⟨o, n, p, r, w, x, l, rfl, _⟩ := h
    rfl
  · obtain ⟨o, n, p, r, w, x, ns, rfl, ho, hl, hn, hw, hp, hr2, pk, q⟩ := h
    have nd := sc_b_shows.nd
    refine ⟨_, (pss_cons (ps_set (i := 5) nd rfl (Or.inl rfl) (pe_call (ok_ts T) (hr.mono (by decide)) (by rfl) T.m_tree_of_standing T.F_tree_of_standing.kp (b_ts T) .nil pass0 (pa_cons (pv 1) (pa_cons (pv 2) (pa_cons (pv 3) (pa_cons (pv 4) pa_nil))))))
      (pss_cons (ps_if (pt_not (pt_val (pe_call (ok_isp T) (hr.mono (by decide)) (by rfl) T.m_is_set_of_places T.F_is_set_of_places.kp (b_isp T) .nil pass0 (pa_cons (pe_fld (pv 0) rfl) (pa_cons (pv 1) pa_nil))))) (pss_one (ps_ret pe_bl)) pss_nil)
      (pss_cons (ps_if (pt_cmpR op_eq (pe_fld (pv 0) rfl) pe_str (nomark _)) (pss_one (ps_ret (pe_and (pe_cmpR op_gt (pe_callB (r := rLn K) call_len_seq (by rfl) T.g_len PySem.boot_len (pa_cons (pe_fld (pv 0) rfl) pa_nil)) (pv 3) (nomark _)) (pe_one (pe_call (ok_aa T) (hr.mono (by decide)) (by rfl) T.m_are_among T.F_are_among.kp (b_aa T) .nil pass0 (pa_cons (pe_fld (pv 0) rfl) (pa_cons (pe_call (ok_pa T) (hr.mono (by decide)) (by rfl) T.m_places_above T.F_places_above.kp (b_pa T) .nil pass0 (pa_cons (pv 5) (pa_cons (pv 2) pa_nil))) pa_nil))))))) pss_nil)
      (pss_cons (ps_if (pt_cmpR op_eq (pe_fld (pv 0) rfl) pe_str (nomark _)) (pss_one (ps_ret (pe_and (pe_cmpR op_gt (pe_callB (r := rLn K) call_len_seq (by rfl) T.g_len PySem.boot_len (pa_cons (pe_fld (pv 0) rfl) pa_nil)) (pe_op op_sub (pe_op op_sub (pv 1) pe_int) (pv 3)) (nomark _)) (pe_one (pe_call (ok_aa T) (hr.mono (by decide)) (by rfl) T.m_are_among T.F_are_among.kp (b_aa T) .nil pass0 (pa_cons (pe_fld (pv 0) rfl) (pa_cons (pe_call (ok_pb T) (hr.mono (by decide)) (by rfl) T.m_places_below T.F_places_below.kp (b_pb T) .nil pass0 (pa_cons (pv 5) (pa_cons (pv 2) pa_nil))) pa_nil))))))) pss_nil)
      (pss_one (ps_ret pe_bl)))))), ?_⟩
    refine ⟨_, rfl, _, rfl, _, rfl, _, rfl, n, p, r, w, rfl, hn, hw, hp, hr2, fun H1 y s1 t1 => ?_⟩
    obtain ⟨dx, t, g1, g2⟩ := ho.same s1
    unfold brB at q
    refine ⟨_, rfl, o, A.CB, dx, _, _, rfl, g1, T.cTB, T.bPl, bfd_pl _ _, _, rfl, ?_⟩
    dsimp only [tNil]
    refine isp_ints g2 hl fun H2 s2 => ⟨_, rfl, ?_⟩
    have g1 := s2 _ _ g1
    have g2 := s2 _ _ g2
    have t2 := t1.same s2
    have s12 := s1.trans s2
    by_cases hs : setB n ns = true
    · rw [hs] at q ⊢
      rw [Bool.true_and] at q
      refine iteF ?_
      refine ⟨_, rfl, o, A.CB, dx, _, _, rfl, g1, T.cTB, T.bWord, bfd_word _ _, rfl, _, rfl, ?_⟩
      by_cases h1 : x = ("ahead" : Str)
      · rw [if_pos h1] at q
        rw [decide_eq_true (show V.str x = V.str ("ahead" : Str) by rw [h1])]
        refine iteT ?_
        refine ⟨_, rfl, o, A.CB, dx, _, _, rfl, g1, T.cTB, T.bPl, bfd_pl _ _, t, _, rfl, .inr (SqT.of g2), _, rfl, _, _, rfl, rfl, _, rfl, ?_⟩
        rw [List.length_map]
        by_cases h2 : (r : Int) < (ns.length : Nat)
        · rw [decide_eq_true h2]
          rw [decide_eq_true h2, Bool.true_and] at q
          refine iteT ?_
          refine ⟨_, rfl, o, A.CB, dx, _, _, rfl, g1, T.cTB, T.bPl, bfd_pl _ _, _, rfl, _, rfl, y, n, w, p, rfl, t2, hp, pk.w1, fun H3 z s3 n3 e3 => ?_⟩
          exact ⟨t, z, ns, _, rfl, s3 _ _ g2, e3, hl, fun H4 s4 => q _ (s12.trans (s3.trans s4))⟩
        · rw [decide_eq_false h2]
          rw [decide_eq_false h2, Bool.false_and] at q
          exact iteF (q _ s12)
      · rw [if_neg h1] at q
        rw [decide_eq_false (show ¬ V.str x = V.str ("ahead" : Str) from fun z => h1 (by injection z))]
        refine iteF ?_
        refine ⟨_, rfl, o, A.CB, dx, _, _, rfl, g1, T.cTB, T.bWord, bfd_word _ _, rfl, _, rfl, ?_⟩
        by_cases h3 : x = ("behind" : Str)
        · rw [if_pos h3] at q
          rw [decide_eq_true (show V.str x = V.str ("behind" : Str) by rw [h3])]
          refine iteT ?_
          refine ⟨_, rfl, o, A.CB, dx, _, _, rfl, g1, T.cTB, T.bPl, bfd_pl _ _, t, _, rfl, .inr (SqT.of g2), _, rfl, _, _, rfl, rfl, _, rfl, _, _, rfl, rfl, _, _, rfl, rfl, _, rfl, ?_⟩
          rw [List.length_map]
          by_cases h2 : ((n : Int) - 1 - (r : Int)) < (ns.length : Nat)
          · rw [decide_eq_true h2]
            rw [decide_eq_true h2, Bool.true_and] at q
            refine iteT ?_
            refine ⟨_, rfl, o, A.CB, dx, _, _, rfl, g1, T.cTB, T.bPl, bfd_pl _ _, _, rfl, _, rfl, y, n, w, p, rfl, t2, hp, pk.s1, fun H3 z s3 n3 e3 => ?_⟩
            exact ⟨t, z, ns, _, rfl, s3 _ _ g2, e3, hl, fun H4 s4 => q _ (s12.trans (s3.trans s4))⟩
          · rw [decide_eq_false h2]
            rw [decide_eq_false h2, Bool.false_and] at q
            exact iteF (q _ s12)
        · rw [if_neg h3] at q
          rw [decide_eq_false (show ¬ V.str x = V.str ("behind" : Str) from fun z => h3 (by injection z))]
          exact iteF (q _ s12)
    · rw [Bool.eq_false_iff.mpr hs] at q ⊢
      rw [Bool.false_and] at q
      exact iteT (q _ s12)
theorem kbs (T : Tx K mg A) : ∃ mv : List Value, KBn K A.d_b_shows ["self", "many", "place", "rank", "arms"] 4 ["arms"] (fun us ws => us ++ (mv ++ ws)) (fun vs zs => vs ++ zs) := by
  obtain ⟨mv, h⟩ := T.F_b_shows.kbinds0 (ps := ["self", "many", "place", "rank", "arms"]) 4 ["arms"] [] (fun us mv ws => us ++ (mv ++ ws)) (by simp) (by simp) (fun r1 r2 r3 => r1.append (r2.append r3))
    (fun D doc pm an cdv ct us mv ws h1 h2 h3 => by
      match us, mv, ws, h1, h2, h3 with
      | [a, b, c, d], [], [e], _, _, _ => rfl)
  exact ⟨mv, h⟩

end
end Tw

set_option Elab.async false
set_option linter.all false
set_option maxRecDepth 100000
set_option maxHeartbeats 2000000
namespace Tw
open PySem PySem.Spec PyProof.Rows L2
section
variable {P : Program} {w : World} {K : PySem.W.Frag} {mg : Str → Option Value} {base : Heap} {A : Ad}
def Barr (n w p r : Nat) (x : Str) (l : List Nat) : Prop := (x = ("ahead" : Str) ∧ l = abL w p ∧ r < l.length) ∨ (x = ("behind" : Str) ∧ l = beL n w p ∧ n - 1 - r < l.length)
theorem nv_cutT (l : List Nat) (i : Nat) : cutV (nv l) none (some (i : Int)) = nv (l.take i) := by
  unfold cutV
  rw [HT.sIx_none, HT.sIx_nat, List.drop_zero, Nat.sub_zero, nv_len]
  by_cases h : i ≤ l.length
  · rw [Nat.min_eq_left h, nv_take]
  · rw [List.take_of_length_le (show (nv l).length ≤ min i l.length by rw [nv_len]; omega), List.take_of_length_le (show l.length ≤ i by omega)]
theorem nv_cutD (l : List Nat) (i : Nat) : cutV (nv l) (some (i : Int)) none = nv (l.drop i) := by
  unfold cutV
  rw [HT.sIx_none, HT.sIx_nat, nv_len]
  by_cases h : i ≤ l.length
  · rw [Nat.min_eq_left h, List.take_of_length_le (by rw [List.length_drop, nv_len]; exact Nat.le_refl _), nv_drop]
  · rw [Nat.min_eq_right (by omega), List.drop_of_length_le (show l.length ≤ i by omega), List.drop_of_length_le (show (nv l).length ≤ l.length by rw [nv_len]; exact Nat.le_refl _), List.take_nil]
    rfl
def Told (A : Ad) (n w p r : Nat) (H : Hp) (q : Addr) : Prop := (RkOk n w p r ∧ StAt A.CS H q (byO (ordL n w p r))) ∨ (r ∉ dueL n w p ∧ ∃ (x : Str) (l : List Nat), Barr n w p r x l ∧ BaAt A.CB H q x l)
theorem Told.same {A : Ad} {n w p r : Nat} {H H' : Hp} {q : Addr} (h : Told A n w p r H q) (s : Same H H') : Told A n w p r H' q := by
  rcases h with ⟨a, b⟩ | ⟨a, x, l, b, c⟩
  · exact .inl ⟨a, b.same s⟩
  · exact .inr ⟨a, x, l, b, c.same s⟩
theorem bs_len (n w p : Nat) : (bsL n w p).length ≤ n := Nat.le_trans (List.length_filter_le _ _) (by rw [List.length_range]; exact Nat.le_refl _)
def spSt (A : Ad) : Sp := fun vs H Q _ => ∃ (n p r w : Nat), vs = [.int n, .int p, .int r, .int w] ∧ Dm n w ∧ p < n ∧ r < n ∧ ∀ (H' : Hp) (q : Addr), Same H H' → Told A n w p r H' q → Q (.ref q) H'
theorem ok_st (T : Tx K mg A) : FnOk P w K mg base CX0 8 A.f_stand A.d_stand ["many", "place", "rank", "arms"] (spSt A) := by
  refine T.F_stand.ok sc_stand (fun vs H Q E h => ?_) (fun cdv B outer s H vs Q E hr h => ?_)
  · obtain ⟨n, p, r, w, rfl, _⟩ := h
    rfl
  · obtain ⟨n, p, r, w, rfl, dm, hp, hr2, q⟩ := h
    have nd := sc_stand.nd
    have h6 := dm.n6
    have hw := dm.w4
    obtain ⟨pk, rk⟩ := dm.place hp
    obtain ⟨rk1, rk2, rk3⟩ := rk r hr2
    have hal : (abL w p).length ≤ 9 := by have := pk.wl; rw [List.length_dropLast]; omega
    have hbl := pk.bl
    refine ⟨_, (pss_cons (ps_set (i := 4) nd rfl (Or.inl rfl) (pe_call (ok_ts T) (hr.mono (by decide)) (by rfl) T.m_tree_of_standing T.F_tree_of_standing.kp (b_ts T) .nil pass0 (pa_cons (pv 0) (pa_cons (pv 1) (pa_cons (pv 2) (pa_cons (pv 3) pa_nil))))))
      (pss_cons (ps_set (i := 5) nd rfl (Or.inr rfl) (pe_call (ok_pa T) (hr.mono (by decide)) (by rfl) T.m_places_above T.F_places_above.kp (b_pa T) .nil pass0 (pa_cons (pv 4) (pa_cons (pv 1) pa_nil))))
      (pss_cons (ps_set (i := 6) nd rfl (Or.inr rfl) (pe_call (ok_pb T) (hr.mono (by decide)) (by rfl) T.m_places_below T.F_places_below.kp (b_pb T) .nil pass0 (pa_cons (pv 4) (pa_cons (pv 1) pa_nil))))
      (pss_cons (ps_if (pt_cmpR op_gt (pe_callB (r := rLn K) call_len_seq (by rfl) T.g_len PySem.boot_len (pa_cons (pv 5) pa_nil)) (pv 2) (nomark _)) (pss_one (ps_ret (pe_make T.mkCB (ok_bi T) (hr.mono (by decide)) (by rfl) T.mCB (b_bi T) .nil pass0 (pa_cons pe_str (pa_cons (pv 5) pa_nil))))) pss_nil)
      (pss_cons (ps_if (pt_cmpR op_gt (pe_callB (r := rLn K) call_len_seq (by rfl) T.g_len PySem.boot_len (pa_cons (pv 6) pa_nil)) (pe_op op_sub (pe_op op_sub (pv 0) pe_int) (pv 2)) (nomark _)) (pss_one (ps_ret (pe_make T.mkCB (ok_bi T) (hr.mono (by decide)) (by rfl) T.mCB (b_bi T) .nil pass0 (pa_cons pe_str (pa_cons (pv 6) pa_nil))))) pss_nil)
      (C8.pss_cut (ps_setLc (i := 7) (own := [("other", 9)]) (g := gName 9) rfl nd rfl rfl (sw_true rfl rfl rfl (by decide +kernel)) (pi_own T.D_t___iter__ (ok_iter T) (hr.mono (by decide)) (b_iter T) (pv 4)) (blkOk_by (own := [("other", 9)]) (N := ["many", "place", "rank", "arms", "tree", "above", "below", "beside", "ahead", "other"]) (sc := (defScope s_stand)) (by decide +kernel)) (fun _ _ _ _ _ => pg_name (i := 9) nd rfl (Or.inl rfl)) (fun _ _ _ _ _ => pts_one (PW.pt (pw_and (pt_cmpR op_ne (pv 9) (pv 1) (nomark _)) (pw_and (pt_cmpR (r := L2.rIn K true) op_notIn_seq (pv 9) (pv 5) (by rfl)) (pw_and1 (pt_cmpR (r := L2.rIn K true) op_notIn_seq (pv 9) (pv 6) (by rfl))))))) (fun _ _ _ _ _ => (pv 9)))
      (pss_cons (ps_set (i := 8) nd rfl (Or.inl rfl) (pe_op op_cat (pe_callTy call_list_of (by rfl) T.g_list (by decide +kernel) (pa_cons (pv 5) pa_nil)) (pe_slice (r := rSlL K) sl_list (pv 7) po_none (po_some (pe_op op_sub (pv 2) (pe_callB (r := rLn K) call_len_seq (by rfl) T.g_len PySem.boot_len (pa_cons (pv 5) pa_nil)))))))
      (pss_one (ps_ret (pe_make T.mkCS (ok_si T) (hr.mono (by decide)) (by rfl) T.mCS (b_si T) .nil pass0 (pa_cons (pe_call (ok_rbo T) (hr.mono (by decide)) (by rfl) T.m_row_by_order T.F_row_by_order.kp (b_rbo T) .nil pass0 (pa_cons (pe_op op_cat (pe_op op_cat (pe_op op_cat (pv 8) (pe_lst (pa_cons (pv 1) pa_nil))) (pe_slice (r := rSlL K) sl_list (pv 7) (po_some (pe_op op_sub (pv 2) (pe_callB (r := rLn K) call_len_seq (by rfl) T.g_len PySem.boot_len (pa_cons (pv 5) pa_nil)))) po_none)) (pe_callTy call_list_of (by rfl) T.g_list (by decide +kernel) (pa_cons (pv 6) pa_nil))) pa_nil)) pa_nil))))))))))), ?_⟩
    refine ⟨_, rfl, _, rfl, _, rfl, _, rfl, n, p, r, w, rfl, by omega, hw, hp, hr2, fun H1 x s1 t1 => ?_⟩
    refine ⟨_, rfl, _, rfl, x, n, w, p, rfl, t1, hp, pk.w1, fun H2 ab s2 n2 e2 => ?_⟩
    refine ⟨_, rfl, _, rfl, x, n, w, p, rfl, t1.same s2, hp, pk.s1, fun H3 be s3 n3 e3 => ?_⟩
    have e2 := s3 _ _ e2
    have t3 := (t1.same s2).same s3
    have s13 := s1.trans (s2.trans s3)
    refine ⟨_, rfl, ab, _, rfl, .inr (SqT.of e2), _, rfl, _, _, rfl, rfl, _, rfl, ?_⟩
    rw [nv_len]
    by_cases c1 : r < (abL w p).length
    · rw [decide_eq_true (show (r : Int) < ((abL w p).length : Nat) by omega)]
      refine iteT ?_
      refine ⟨_, rfl, fun y dy ny ndy nyd => ⟨y, dy, ab, _, _, rfl, upd_same, .inr (by rw [upd_ne (ne_of_none e2 ny), upd_ne (ne_of_none e2 ndy)]; exact e2), fun H4 k4 b4 => ⟨rfl, ?_⟩⟩⟩
      exact q _ y (s13.trans (new_same ny ndy k4)) (.inr ⟨rk1 c1, _, _, .inl ⟨rfl, rfl, c1⟩, b4⟩)
    rw [decide_eq_false (show ¬ (r : Int) < ((abL w p).length : Nat) by omega)]
    refine iteF ?_
    refine ⟨_, rfl, be, _, rfl, .inr (SqT.of e3), _, rfl, _, _, rfl, rfl, _, rfl, _, _, rfl, rfl, _, _, rfl, rfl, _, rfl, ?_⟩
    rw [nv_len]
    by_cases c2 : n - 1 - r < (beL n w p).length
    · rw [decide_eq_true (show (n : Int) - 1 - (r : Nat) < ((beL n w p).length : Nat) by omega)]
      refine iteT ?_
      refine ⟨_, rfl, fun y dy ny ndy nyd => ⟨y, dy, be, _, _, rfl, upd_same, .inr (by rw [upd_ne (ne_of_none e3 ny), upd_ne (ne_of_none e3 ndy)]; exact e3), fun H4 k4 b4 => ⟨rfl, ?_⟩⟩⟩
      exact q _ y (s13.trans (new_same ny ndy k4)) (.inr ⟨rk2 c1 c2, _, _, .inr ⟨rfl, rfl, c2⟩, b4⟩)
    rw [decide_eq_false (show ¬ (n : Int) - 1 - (r : Nat) < ((beL n w p).length : Nat) by omega)]
    refine iteF ?_
    have ro := rk3 c1 c2
    have hbs := bs_len n w p
    obtain ⟨dx, l, h1, h2⟩ := id t3.ob
    refine ⟨fun σ' H' => ∃ D : Addr, σ' = [some (.int n), some (.int p), some (.int r), some (.int w), some (.ref x), some (.ref ab), some (.ref be), some (.ref D), none, none] ∧ Same H3 H' ∧ H' D = some (.lst (nv (bsL n w p))), ?_, ?_⟩
    · refine ⟨_, rfl, x, dx, _, l, _, rfl, h1, tf_pl _ _ _, SqT.of h2, fun D nD => ?_⟩
      refine lc_it (walk_tup (xs := pl n)) (fun i H' => Acc H3 D (nv ((List.range i).filter (bsB n w p))) H') (Acc.start nD) (fun i H' _ ac => SqT.of (ac.s _ _ h2)) ?_ ?_
      · rintro i y H4o H4 hi ac ⟨rfl, hy⟩
        obtain ⟨hi2, rfl⟩ := plAt hy
        have hfl : ((List.range i).filter (bsB n w p)).length ≤ 12 := Nat.le_trans (List.length_filter_le _ _) (by rw [List.length_range]; omega)
        have no : bsB n w p i = false → Acc H3 D (nv ((List.range (i + 1)).filter (bsB n w p))) H4 := fun h => by
          rw [List.range_succ, List.filter_append, List.filter_cons_of_neg (by rw [h]; exact Bool.false_ne_true), List.filter_nil, List.append_nil]
          exact ac
        refine ⟨rfl, _, rfl, _, rfl, rfl, _, rfl, ?_⟩
        by_cases h0 : i = p
        · rw [decide_eq_true (show V.int (i : Nat) = V.int (p : Nat) by rw [h0])]
          exact iteF (iteF (no (by unfold bsB; rw [decide_eq_false (show ¬ i ≠ p from fun z => z h0), Bool.false_and])))
        rw [decide_eq_false (show ¬ V.int (i : Nat) = V.int (p : Nat) by intro z; injection z with z; omega)]
        refine iteT ?_
        refine ⟨_, rfl, _, rfl, ab, _, rfl, .inr (SqT.of (ac.s _ _ e2)), rfl, nv_flat _, _, rfl, ?_⟩
        rw [if_pos rfl, inV_nv]
        by_cases h1 : i ∈ abL w p
        · rw [decide_eq_true h1]
          exact iteF (iteF (no (by unfold bsB; rw [decide_eq_false (show ¬ i ∉ abL w p from fun z => z h1), Bool.false_and, Bool.and_false])))
        rw [decide_eq_false h1]
        refine iteT ?_
        refine ⟨_, rfl, _, rfl, be, _, rfl, .inr (SqT.of (ac.s _ _ e3)), rfl, nv_flat _, _, rfl, ?_⟩
        rw [if_pos rfl, inV_nv]
        by_cases h3 : i ∈ beL n w p
        · rw [decide_eq_true h3]
          exact iteF (no (by unfold bsB; rw [decide_eq_false (show ¬ i ∉ beL n w p from fun z => z h3), Bool.and_false, Bool.and_false]))
        rw [decide_eq_false h3]
        refine iteT ⟨_, rfl, _, ac.a, by rw [nv_len, sizeLine_eq]; omega, ?_⟩
        rw [List.range_succ, List.filter_append, List.filter_cons_of_pos (by unfold bsB; rw [decide_eq_true h0, decide_eq_true h1, decide_eq_true h3]; rfl), List.filter_nil, appN]
        exact ac.push
      · intro H4 ac
        rw [pl_len] at ac
        exact ⟨D, rfl, ac.s, ac.a⟩
    rintro σ' H4 ⟨D, rfl, s4, eD⟩
    have e2 := s4 _ _ e2
    have e3 := s4 _ _ e3
    have s14 := s13.trans s4
    generalize hk : r - (abL w p).length = k at *
    have ek : ((r : Nat) : Int) - (((abL w p).length : Nat) : Int) = ((k : Nat) : Int) := by omega
    -- ahead
    refine ⟨_, rfl, ab, _, rfl, .inr (SqT.of e2), fun m nm => ?_⟩
    have s5 := Same.up (o := .lst (nv (abL w p))) nm
    have em : upd H4 m (.lst (nv (abL w p))) m = some (.lst (nv (abL w p))) := upd_same
    generalize upd H4 m (.lst (nv (abL w p))) = G5 at s5 em
    refine ⟨_, rfl, _, rfl, _, rfl, ab, _, rfl, .inr (SqT.of (s5 _ _ e2)), _, _, rfl, rfl, ⟨_, rfl, D, _, rfl, SqL.of (s5 _ _ eD), fun u nu => ?_⟩⟩
    rw [show ((r : Nat) : Int) - (((nv (abL w p)).length : Nat) : Int) = ((k : Nat) : Int) by rw [nv_len]; exact ek, nv_cutT]
    have s6 := Same.up (o := .lst (nv ((bsL n w p).take k))) nu
    have eu : upd G5 u (.lst (nv ((bsL n w p).take k))) u = some (.lst (nv ((bsL n w p).take k))) := upd_same
    have em := s6 _ _ em
    generalize upd G5 u (.lst (nv ((bsL n w p).take k))) = G6 at s6 eu em
    have htk : ((bsL n w p).take k).length ≤ 9 := by rw [List.length_take]; omega
    have hdk : ((bsL n w p).drop k).length ≤ 9 := by rw [List.length_drop]; omega
    refine ⟨m, u, _, _, rfl, rfl, em, eu, by rw [nv_len, nv_len, sizeLine_eq]; omega, fun z nz => ?_⟩
    rw [nv_appL]
    have s7 := Same.up (o := .lst (nv (abL w p ++ (bsL n w p).take k))) nz
    have ez : upd G6 z (.lst (nv (abL w p ++ (bsL n w p).take k))) z = some (.lst (nv (abL w p ++ (bsL n w p).take k))) := upd_same
    generalize upd G6 z (.lst (nv (abL w p ++ (bsL n w p).take k))) = G7 at s7 ez
    have s47 := s5.trans (s6.trans s7)
    refine ⟨_, rfl, _, rfl, by show 1 ≤ sizeLine; decide, fun l1 n1 => ?_⟩
    have s8 := Same.up (o := .lst [V.int (p : Nat)]) n1
    have el1 : upd G7 l1 (.lst [V.int (p : Nat)]) l1 = some (.lst [V.int (p : Nat)]) := upd_same
    have ez := s8 _ _ ez
    generalize upd G7 l1 (.lst [V.int (p : Nat)]) = G8 at s8 el1 ez
    refine ⟨z, l1, _, _, rfl, rfl, ez, el1, by rw [nv_len, List.length_append, List.length_singleton, sizeLine_eq]; omega, fun z1 nz1 => ?_⟩
    rw [appN]
    have s9 := Same.up (o := .lst (nv (abL w p ++ (bsL n w p).take k ++ [p]))) nz1
    have ez1 : upd G8 z1 (.lst (nv (abL w p ++ (bsL n w p).take k ++ [p]))) z1 = some (.lst (nv (abL w p ++ (bsL n w p).take k ++ [p]))) := upd_same
    generalize upd G8 z1 (.lst (nv (abL w p ++ (bsL n w p).take k ++ [p]))) = G9 at s9 ez1
    have s49 := s47.trans (s8.trans s9)
    refine ⟨_, rfl, _, rfl, _, rfl, ab, _, rfl, .inr (SqT.of (s49 _ _ e2)), _, _, rfl, rfl, ⟨_, rfl, D, _, rfl, SqL.of (s49 _ _ eD), fun u2 nu2 => ?_⟩⟩
    rw [show ((r : Nat) : Int) - (((nv (abL w p)).length : Nat) : Int) = ((k : Nat) : Int) by rw [nv_len]; exact ek, nv_cutD]
    have s10 := Same.up (o := .lst (nv ((bsL n w p).drop k))) nu2
    have eu2 : upd G9 u2 (.lst (nv ((bsL n w p).drop k))) u2 = some (.lst (nv ((bsL n w p).drop k))) := upd_same
    have ez1 := s10 _ _ ez1
    generalize upd G9 u2 (.lst (nv ((bsL n w p).drop k))) = G10 at s10 eu2 ez1
    refine ⟨z1, u2, _, _, rfl, rfl, ez1, eu2, by rw [nv_len, nv_len, List.length_append, List.length_append, List.length_singleton, sizeLine_eq]; omega, fun z2 nz2 => ?_⟩
    rw [nv_appL]
    have s11 := Same.up (o := .lst (nv (abL w p ++ (bsL n w p).take k ++ [p] ++ (bsL n w p).drop k))) nz2
    have ez2 : upd G10 z2 (.lst (nv (abL w p ++ (bsL n w p).take k ++ [p] ++ (bsL n w p).drop k))) z2 = some (.lst (nv (abL w p ++ (bsL n w p).take k ++ [p] ++ (bsL n w p).drop k))) := upd_same
    generalize upd G10 z2 (.lst (nv (abL w p ++ (bsL n w p).take k ++ [p] ++ (bsL n w p).drop k))) = G11 at s11 ez2
    have s411 := s49.trans (s10.trans s11)
    refine ⟨_, rfl, be, _, rfl, .inr (SqT.of (s411 _ _ e3)), fun m2 nm2 => ?_⟩
    have s12 := Same.up (o := .lst (nv (beL n w p))) nm2
    have em2 : upd G11 m2 (.lst (nv (beL n w p))) m2 = some (.lst (nv (beL n w p))) := upd_same
    have ez2 := s12 _ _ ez2
    generalize upd G11 m2 (.lst (nv (beL n w p))) = G12 at s12 em2 ez2
    have hbn : (beL n w p).length ≤ 9 := by omega
    refine ⟨z2, m2, _, _, rfl, rfl, ez2, em2, by rw [nv_len, nv_len, List.length_append, List.length_append, List.length_append, List.length_singleton, sizeLine_eq]; omega, fun z3 nz3 => ?_⟩
    rw [nv_appL]
    have eo : abL w p ++ (bsL n w p).take k ++ [p] ++ (bsL n w p).drop k ++ beL n w p = ordL n w p r := by
      unfold ordL
      rw [hk]
    rw [eo]
    have s13 := Same.up (o := .lst (nv (ordL n w p r))) nz3
    refine ⟨z3, ordL n w p r, rfl, upd_same, by rw [ro.len]; omega, fun x hx => by rw [ro.len]; exact ro.lt x hx, fun H5 t5 s5' e5 => ?_⟩
    have s415 := s14.trans (s411.trans (s12.trans (s13.trans s5')))
    refine fun y dy ny ndy nyd => ⟨y, dy, t5, _, rfl, upd_same, .inr (by rw [upd_ne (ne_of_none e5 ny), upd_ne (ne_of_none e5 ndy)]; exact e5), fun H6 k6 b6 => ⟨rfl, ?_⟩⟩
    exact q _ y (s415.trans (new_same ny ndy k6)) (.inl ⟨ro, b6⟩)
theorem kst (T : Tx K mg A) : ∃ mv : List Value, KBn K A.d_stand ["many", "place", "rank", "arms"] 3 ["arms"] (fun us ws => us ++ (mv ++ ws)) (fun vs zs => vs ++ zs) := by
  obtain ⟨mv, h⟩ := T.F_stand.kbinds0 (ps := ["many", "place", "rank", "arms"]) 3 ["arms"] [] (fun us mv ws => us ++ (mv ++ ws)) (by simp) (by simp) (fun r1 r2 r3 => r1.append (r2.append r3))
    (fun D doc pm an cdv ct us mv ws h1 h2 h3 => by
      match us, mv, ws, h1, h2, h3 with
      | [a, b, c], [], [e], _, _, _ => rfl)
  exact ⟨mv, h⟩
/-- what isinstance says of what is told -/
theorem told_isS (T : Tx K mg A) {n w p r : Nat} {H : Hp} {q : Addr} (h : Told A n w p r H q) : ∃ t, TyX K H (.ref q) t ∧ PySem.W.kitOne K t (.ref A.CS) = some (decide (r ∈ dueL n w p)) := by
  rcases h with ⟨ro, dx, t, g1, g2⟩ | ⟨hn, x, l, hb, dx, t, g1, g2⟩
  · refine ⟨.ref A.CS, .base (.ins g1 T.cTS T.kaS T.knS T.ktkS T.kmS), ?_⟩
    rw [decide_eq_true ro.due]
    exact if_pos (by simp)
  · refine ⟨.ref A.CB, .base (.ins g1 T.cTB T.kaB T.knB T.ktkB T.kmB), ?_⟩
    rw [decide_eq_false hn]
    exact T.kiS_CB
theorem told_isB (T : Tx K mg A) {n w p r : Nat} {H : Hp} {q : Addr} (h : Told A n w p r H q) : ∃ t, TyX K H (.ref q) t ∧ PySem.W.kitOne K t (.ref A.CB) = some (!decide (r ∈ dueL n w p)) := by
  rcases h with ⟨ro, dx, t, g1, g2⟩ | ⟨hn, x, l, hb, dx, t, g1, g2⟩
  · refine ⟨.ref A.CS, .base (.ins g1 T.cTS T.kaS T.knS T.ktkS T.kmS), ?_⟩
    rw [decide_eq_true ro.due]
    exact T.kiB_CS
  · refine ⟨.ref A.CB, .base (.ins g1 T.cTB T.kaB T.knB T.ktkB T.kmB), ?_⟩
    rw [decide_eq_false hn]
    exact if_pos (by simp)
end
end Tw

set_option Elab.async false
set_option linter.all false
set_option maxRecDepth 100000
set_option maxHeartbeats 2000000
namespace Tw
open PySem PySem.Spec PyProof.Rows L2
section
variable {P : Program} {w : World} {K : PySem.W.Frag} {mg : Str → Option Value} {base : Heap} {A : Ad}
def muI : Option (Option V) → Nat
  | some (some (.int i)) => i.toNat
  | _ => 0
def spLab : Sp := fun vs H Q _ => ∃ (p w : Nat), vs = [.int p, .int w] ∧ p ≤ 12 ∧ (1 ≤ w ∧ w ≤ 4) ∧ ∀ (H' : Hp) (q : Addr), Same H H' → H q = none → H' q = some (.lst (nv (aboveL w p))) → Q (.ref q) H'
theorem ok_lab (T : Tx K mg A) : FnOk P w K mg base CX0 1 A.f__law_above A.d__law_above ["place", "wide"] spLab := by
  refine T.F__law_above.ok sc__law_above (fun vs H Q E h => ?_) (fun cdv B outer s H vs Q E hr h => ?_)
  · obtain ⟨p, w, rfl, _⟩ := h
    rfl
  · obtain ⟨p, w, rfl, hp, hw, q⟩ := h
    have nd := sc__law_above.nd
    refine ⟨_, (pss_cons (ps_set (i := 2) nd rfl (Or.inl rfl) (pe_lst pa_nil))
      (C8.pss_cut (ps_while PassesOwn.never (pt_cmpR op_gt (pv 0) pe_int (nomark _)) (pss_cons (ps_set (i := 0) nd rfl (Or.inl rfl) (pe_op op_fdivN (pe_op op_sub (pv 0) pe_int) (pv 1)))
      (pss_one (ps_expr (pe_bm PySem.F.plainAttrs_list PySem.F.slot_list_append PySem.F.type_list_append mt_append (pv 2) (pa_cons (pv 0) pa_nil))))))
      (pss_one (ps_ret (pv 2))))), ?_⟩
    refine ⟨Nat.zero_le _, fun D nD => ?_⟩
    refine ⟨fun σ' H' => ∃ x0 : Option V, σ' = [x0, some (.int w), some (.ref D)] ∧ Acc H D (nv (aboveL w p)) H', ?_, ?_⟩
    · refine while_by (fun σ' H' => ∃ (c : Nat) (acc : List Nat), σ' = [some (.int c), some (.int w), some (.ref D)] ∧ Acc H D (nv acc) H' ∧ acc ++ aboveL w c = aboveL w p ∧ c ≤ 12) (fun σ' _ => muI σ'[0]?) ⟨p, [], rfl, Acc.start nD, rfl, hp⟩ ?_ ?_
      · rintro σ' H2 ⟨c, acc, rfl, ac, ea, hc⟩
        have eq := above_eq w (by omega) c (by omega) hw.1
        have hal : acc.length ≤ 12 := by
          have h1 := above_len w (by omega) p (by omega) hw.1
          rw [← ea, List.length_append] at h1
          omega
        refine ⟨_, rfl, _, _, rfl, rfl, _, rfl, ?_⟩
        by_cases h0 : c = 0
        · subst h0
          rw [if_pos rfl] at eq
          rw [eq, List.append_nil] at ea
          refine iteF ⟨_, rfl, ?_⟩
          rw [← ea]
          exact ac
        · rw [decide_eq_true (show (0 : Int) < (c : Nat) by omega)]
          refine iteT ?_
          rw [if_neg h0] at eq
          have hlt : (c - 1) / w < c := Nat.lt_of_le_of_lt (Nat.div_le_self _ _) (by omega)
          have e : Int.fdiv ((c : Int) - 1) (w : Int) = ((c - 1) / w : Nat) := by
            rw [Int.fdiv_eq_ediv_of_nonneg _ (by omega), show ((c : Int) - 1) = ((c - 1 : Nat) : Int) by omega]
            rfl
          refine ⟨_, rfl, _, _, rfl, rfl, _, rfl, _, _, rfl, rfl, ⟨by omega, by omega⟩, ?_⟩
          refine ⟨_, rfl, .inl ⟨rfl, _, SqL.of ac.a⟩, _, rfl, D, _, _, rfl, rfl, ac.a, by rw [nv_len, sizeLine_eq]; omega, ⟨(c - 1) / w, acc ++ [(c - 1) / w], ?_, ?_, by rw [List.append_assoc]; rw [← ea, eq]; rfl, by omega⟩, ?_⟩
          · show [some (V.int (Int.fdiv ((c : Int) - 1) (w : Int))), some (V.int w), some (V.ref D)] = _
            rw [e]
          · show Acc H D _ (upd H2 D (.lst (nv acc ++ [V.int (Int.fdiv ((c : Int) - 1) (w : Int))])))
            rw [e, appN]
            exact ac.push
          · show (Int.fdiv ((c : Int) - 1) (w : Int)).toNat < ((c : Nat) : Int).toNat
            rw [e]
            omega
      · rintro σ' H1 Q1 Q2 mono ⟨v, hv, i, j, e1, e2, b, e3, z⟩
        exact ⟨v, hv, i, j, e1, e2, b, e3, mono _ _ z⟩
    · rintro σ' H2 ⟨x0, rfl, ac⟩
      exact ⟨_, rfl, q _ D ac.s nD ac.a⟩
theorem b_lab (T : Tx K mg A) : L2.Binds K A.d__law_above ["place", "wide"] [] := T.F__law_above.binds fun _ _ _ _ _ _ us hl => match us, hl with | [_, _], _ => rfl
def spLbe : Sp := fun vs H Q _ => ∃ (n p w : Nat), vs = [.int n, .int p, .int w] ∧ n ≤ 12 ∧ (1 ≤ w ∧ w ≤ 4) ∧ ∀ (H' : Hp) (q : Addr), Same H H' → H q = none → H' q = some (.lst (nv (belowL n w p))) → Q (.ref q) H'
theorem ok_lbe (T : Tx K mg A) : FnOk P w K mg base CX0 2 A.f__law_below A.d__law_below ["many", "place", "wide"] spLbe := by
  refine T.F__law_below.ok sc__law_below (fun vs H Q E h => ?_) (fun cdv B outer s H vs Q E hr h => ?_)
  · obtain ⟨n, p, w, rfl, _⟩ := h
    rfl
  · obtain ⟨n, p, w, rfl, hn, hw, q⟩ := h
    have nd := sc__law_below.nd
    refine ⟨_, (pss_one (ps_ret (pe_lc (own := [("one", 3)]) (g := gName 3) rfl nd (pi_range1 rfl T.g_range (pa_cons (pv 0) pa_nil)) (blkOk_by (own := [("one", 3)]) (N := ["many", "place", "wide", "one"]) (sc := (defScope s__law_below)) (by decide +kernel)) (fun _ _ _ _ _ => pg_name (i := 3) nd rfl (Or.inl rfl)) (fun _ _ _ _ _ => pts_one (pt_cmpR (r := L2.rIn K false) op_in_seq (pv 1) (pe_call (ok_lab T) (hr.mono (by decide)) (by rfl) T.m__law_above T.F__law_above.kp (b_lab T) .nil pass0 (pa_cons (pv 3) (pa_cons (pv 2) pa_nil))) (by rfl))) (fun _ _ _ _ _ => (pv 3))))), ?_⟩
    refine ⟨_, rfl, _, rfl, by omega, by omega, fun D nD => ?_⟩
    rw [Int.toNat_natCast]
    refine lc_it (walk_range (lo := 0) (n := n)) (fun m H' => Acc H D (nv ((List.range m).filter fun one => decide (p ∈ aboveL w one))) H') (Acc.start nD) (fun _ _ _ _ => trivial) ?_ ?_
    · rintro m y H2 H3 hm ac ⟨rfl, ey⟩
      obtain rfl : y = V.int (m : Nat) := by
        rw [ey]
        show V.int (0 + (m : Int)) = _
        rw [Int.zero_add]
      refine ⟨rfl, _, rfl, _, rfl, _, rfl, m, w, rfl, by omega, hw, fun H4 z s4 n4 e4 => ?_⟩
      refine ⟨z, _, rfl, .inl (SqL.of e4), rfl, nv_flat _, _, rfl, ?_⟩
      rw [if_neg Bool.false_ne_true, inV_nv, List.range_succ, List.filter_append]
      have hfl : ((List.range m).filter fun one => decide (p ∈ aboveL w one)).length ≤ 12 := Nat.le_trans (List.length_filter_le _ _) (by rw [List.length_range]; omega)
      have ac4 := ac.same s4
      by_cases hin : p ∈ aboveL w m
      · rw [decide_eq_true hin]
        refine iteT ⟨_, rfl, _, ac4.a, by rw [nv_len, sizeLine_eq]; omega, ?_⟩
        rw [List.filter_cons_of_pos (by rw [decide_eq_true hin]), List.filter_nil, appN]
        exact ac4.push
      · rw [decide_eq_false hin]
        refine iteF ?_
        rw [List.filter_cons_of_neg (by rw [decide_eq_false hin]; exact Bool.false_ne_true), List.filter_nil, List.append_nil]
        exact ac4
    · intro H2 ac
      exact q _ D ac.s nD ac.a
theorem b_lbe (T : Tx K mg A) : L2.Binds K A.d__law_below ["many", "place", "wide"] [] := T.F__law_below.binds fun _ _ _ _ _ _ us hl => match us, hl with | [_, _, _], _ => rfl
/-! equality of evidence; rows and places by the law's own ways -/
/-- t[lo:hi], by what it holds -/
def rSlS (K : PySem.W.Frag) : V → Option Int → Option Int → Hp → VK → Prop := fun x lo hi H Q => ∃ a xs, x = .ref a ∧ SqT K H a xs ∧ ∀ (p : Addr) (H' : Hp), Same H H' → SqT K H' p (cutV xs lo hi) → Q (.ref p) H'
theorem sl_tupS {X : Cx} : SlR X (rSlS X.K) := by
  intro pins s σ H x v vl vu lo hi sl Q I rx hs pl pu h
  obtain ⟨a, xs, ex, hx, q⟩ := h
  refine sl_tupA pins s σ H x v vl vu lo hi sl Q I rx hs pl pu ⟨a, xs, ex, hx, fun y => ?_, fun _ p np => q p _ (Same.up np) (SqT.of upd_same)⟩
  refine q a H (Same.refl _) ?_
  have : cutV xs lo hi = xs := by
    unfold cutV
    rw [y.1, y.2, List.drop_zero, Nat.sub_zero, List.take_length]
  rw [this]
  exact hx
theorem cut_one (ns : List Int) : cutV (ns.map V.int) (some 1) none = (ns.drop 1).map V.int := by
  rw [cut_first, List.map_drop]
def spSeq (CS CB : Addr) : Sp := fun vs H Q _ => ∃ (o : Addr) (y : V) (ns : List Int), vs = [.ref o, y] ∧ StI CS H o ns ∧ ((∃ (b : Addr) (ms : List Int), y = .ref b ∧ StI CS H b ms ∧ Q (.bl (decide (ns = ms))) H) ∨
  (∃ (b : Addr) (x : Str) (ms : List Int), y = .ref b ∧ BaI CB H b x ms ∧ Q (.bl false) H) ∨ (∃ (t : Addr) (xs : List V), y = .ref t ∧ H t = some (.tup xs) ∧ Q (.bl false) H))
theorem ok_seq (T : Tx K mg A) : FnOk P w K mg base CX0 1 A.f_s___eq__ A.d_s___eq__ ["self", "other"] (spSeq A.CS A.CB) := by
  refine T.F_s___eq__.ok sc_s___eq__ (fun vs H Q E h => ?_) (fun cdv B outer s H vs Q E hr h => ?_)
  · obtain ⟨o, y, ns, rfl, _⟩ := h
    rfl
  · obtain ⟨o, y, ns, rfl, ⟨dx, t, g1, g2⟩, h⟩ := h
    have hu := hr.units
    refine ⟨_, (pss_one (ps_ret (pe_and (pe_callB (r := rIsi K) call_isi (by rfl) T.g_isinstance (by decide +kernel) (pa_cons (pv 1) (pa_cons (pe_glob (v := .ref A.CS) (by rfl) T.mCS (relR _)) pa_nil))) (pe_one (pe_cmpR (op_eqD hu) (pe_fld (pv 0) rfl) (pe_fld (pv 1) rfl) (nomark _)))))), ?_⟩
    rcases h with ⟨b, ms, rfl, ⟨dy, u, k1, k2⟩, q⟩ | ⟨b, x, ms, rfl, ⟨dy, u, k1, k2⟩, q⟩ | ⟨b, xs, rfl, k1, q⟩
    · refine ⟨_, rfl, _, _, .ref A.CS, _, true, rfl, .own A.CS, .base (.ins k1 T.cTS T.kaS T.knS T.ktkS T.kmS), if_pos (by simp), true, rfl, iteT ?_⟩
      refine ⟨_, rfl, o, A.CS, dx, _, _, rfl, g1, T.cTS, T.sRow, sfd_row _, _, rfl, b, A.CS, dy, _, _, rfl, k1, T.cTS, T.sRow, sfd_row _, ?_⟩
      refine ⟨rowD ns, rowD ms, ints_tup K g2, ints_tup K k2, ints_shT _, ints_shT _, ?_⟩
      rw [rowD_eqv]
      exact q
    · exact ⟨_, rfl, _, _, .ref A.CB, _, false, rfl, .own A.CS, .base (.ins k1 T.cTB T.kaB T.knB T.ktkB T.kmB), T.kiS_CB, false, rfl, iteF q⟩
    · exact ⟨_, rfl, _, _, .type "tuple", _, false, rfl, .own A.CS, .base (.tup k1), T.kiS_tuple, false, rfl, iteF q⟩
theorem b_seq (T : Tx K mg A) : L2.Binds K A.d_s___eq__ ["self", "other"] [] := T.F_s___eq__.binds fun _ _ _ _ _ _ us hl => match us, hl with | [_, _], _ => rfl
def spBeq (CB : Addr) : Sp := fun vs H Q _ => ∃ (o b : Addr) (x z : Str) (ns ms : List Int), vs = [.ref o, .ref b] ∧ BaI CB H o x ns ∧ BaI CB H b z ms ∧ Q (.bl (decide (x = z) && decide (ns = ms))) H
theorem ok_beq (T : Tx K mg A) : FnOk P w K mg base CX0 1 A.f_b___eq__ A.d_b___eq__ ["self", "other"] (spBeq A.CB) := by
  refine T.F_b___eq__.ok sc_b___eq__ (fun vs H Q E h => ?_) (fun cdv B outer s H vs Q E hr h => ?_)
  · obtain ⟨o, b, x, z, ns, ms, rfl, _⟩ := h
    rfl
  · obtain ⟨o, b, x, z, ns, ms, rfl, ⟨dx, t, g1, g2⟩, ⟨dy, u, k1, k2⟩, q⟩ := h
    have hu := hr.units
    refine ⟨_, (pss_one (ps_ret (pe_and (pe_callB (r := rIsi K) call_isi (by rfl) T.g_isinstance (by decide +kernel) (pa_cons (pv 1) (pa_cons (pe_glob (v := .ref A.CB) (by rfl) T.mCB (relR _)) pa_nil))) (pe_and (pe_cmpR op_eq (pe_fld (pv 0) rfl) (pe_fld (pv 1) rfl) (nomark _)) (pe_one (pe_cmpR (op_eqD hu) (pe_fld (pv 0) rfl) (pe_fld (pv 1) rfl) (nomark _))))))), ?_⟩
    refine ⟨_, rfl, _, _, .ref A.CB, _, true, rfl, .own A.CB, .base (.ins k1 T.cTB T.kaB T.knB T.ktkB T.kmB), if_pos (by simp), true, rfl, iteT ?_⟩
    refine ⟨_, rfl, o, A.CB, dx, _, _, rfl, g1, T.cTB, T.bWord, bfd_word _ _, _, rfl, b, A.CB, dy, _, _, rfl, k1, T.cTB, T.bWord, bfd_word _ _, rfl, _, rfl, ?_⟩
    by_cases hx : x = z
    · rw [decide_eq_true (show V.str x = V.str z by rw [hx])]
      rw [decide_eq_true hx, Bool.true_and] at q
      refine iteT ⟨_, rfl, o, A.CB, dx, _, _, rfl, g1, T.cTB, T.bPl, bfd_pl _ _, _, rfl, b, A.CB, dy, _, _, rfl, k1, T.cTB, T.bPl, bfd_pl _ _, ?_⟩
      refine ⟨rowD ns, rowD ms, ints_tup K g2, ints_tup K k2, ints_shT _, ints_shT _, ?_⟩
      rw [rowD_eqv]
      exact q
    · rw [decide_eq_false (show ¬ V.str x = V.str z from fun e => hx (by injection e))]
      rw [decide_eq_false hx, Bool.false_and] at q
      exact iteF q
theorem b_beq (T : Tx K mg A) : L2.Binds K A.d_b___eq__ ["self", "other"] [] := T.F_b___eq__.binds fun _ _ _ _ _ _ us hl => match us, hl with | [_, _], _ => rfl
def spLfu : Sp := fun vs H Q _ => ∃ (a n w : Nat) (ns : List Int), vs = [.ref a, .int n, .int w] ∧ H a = some (.lst (ns.map V.int)) ∧ ns.length ≤ 12 ∧ n ≤ 12 ∧ (1 ≤ w ∧ w ≤ 4) ∧ ∀ H' : Hp, Same H H' → Q (.bl (lfB n w ns)) H'
theorem ok_lfu (T : Tx K mg A) : FnOk P w K mg base CX0 1 A.f__law_is_full A.d__law_is_full ["row", "many", "wide"] spLfu := by
  refine T.F__law_is_full.ok sc__law_is_full (fun vs H Q E h => ?_) (fun cdv B outer s H vs Q E hr h => ?_)
  · obtain ⟨a, n, w, ns, rfl, _⟩ := h
    rfl
  · obtain ⟨a, n, w, ns, rfl, ha, hl, hn, hw, q⟩ := h
    have nd := sc__law_is_full.nd
    have hu : (B.deeper (envOfC "_law_is_full" (defScope s__law_is_full) s.heap.objs.size A.f__law_is_full cdv)).units + 64 < cLine := by have := hr.un; omega
    unfold lfB at q
    have hlen : ns.isPerm (natB (List.range n)) = true → ns.length = n := fun h => by
      have := (List.isPerm_iff.mp h).length_eq
      unfold natB at this
      rw [List.length_map, List.length_range] at this
      exact this
    refine ⟨_, PSs.nox (pss_cons (ps_if (PW.pt (pw_or (pt_cmpR op_ne (pe_callB call_len_seq (by rfl) T.g_len PySem.boot_len (pa_cons (pv 0) pa_nil)) (pv 1) (nomark _)) (pw_or1 (pt_cmpR (op_neD hu) (pe_callB cr_sortedI (by rfl) T.g_sorted (by decide +kernel) (pa_cons (pv 0) pa_nil)) (pe_listRg rfl (by rfl) T.g_list (prg_1 (by rfl) T.g_range (pv 1))) (nomark _))))) (pss_one (ps_ret pe_bl)) pss_nil)
      (pss_one (ps_ret (pe_callB (cr_all rfl) (by rfl) T.g_all (by decide +kernel) (pa_cons (pe_lc (own := [("place", 3)]) (g := gName 3) (tt := tYes) rfl nd (pi_range2 rfl T.g_range (pa_cons pe_int (pa_cons (pv 1) pa_nil))) (blkOk_by (own := [("place", 3)]) (N := ["row", "many", "wide", "place"]) (sc := (defScope s__law_is_full)) (by decide +kernel)) (fun _ _ _ _ _ => pg_name (i := 3) nd rfl (Or.inl rfl)) (fun _ _ _ _ _ => pts_nil) (fun _ _ _ _ _ => (pe_cmpR op_gt (pe_ix (r := rIxL K) ix_list (pv 0) (pv 3) (fun _ _ => rfl)) (pe_ix (r := rIxL K) ix_list (pv 0) (pe_op op_fdivN (pe_op op_sub (pv 3) pe_int) (pv 2)) (fun _ _ => rfl)) (nomark _)))) pa_nil))))), ?_⟩
    refine ⟨_, rfl, a, _, rfl, .inl (SqL.of ha), _, rfl, rfl, _, rfl, ?_⟩
    rw [List.length_map]
    by_cases h1 : ns.length = n
    · rw [decide_eq_true (show V.int (ns.length : Nat) = V.int (n : Nat) by rw [h1])]
      refine iteF ?_
      refine ⟨_, rfl, a, ns, rfl, SqL.of ha, fun ns' l1 perm srt n1 => ?_⟩
      have s1 := Same.up (o := .lst (ns'.map V.int)) n1
      have e1 : upd H l1 (.lst (ns'.map V.int)) l1 = some (.lst (ns'.map V.int)) := upd_same
      generalize upd H l1 (.lst (ns'.map V.int)) = G1 at s1 e1
      refine ⟨_, rfl, _, rfl, RgOk.of_le (by omega) (by omega) (by omega) (by omega), fun l2 n2 => ?_⟩
      rw [nv_rg]
      have s2 := s1.trans (Same.up (o := .lst (nv (List.range n))) n2)
      refine ⟨_, _, .lst (SqL.of ((Same.up n2) _ _ e1)) (ints_dp _ _ _), .lst (SqL.of upd_same) (ints_dp _ _ _), shaped_ints _, shaped_ints _, _, rfl, ?_⟩
      rw [ints_eqvL, show decide (ns' = natB (List.range n)) = ns.isPerm (natB (List.range n)) from by
          rw [Bool.eq_iff_iff, decide_eq_true_eq, List.isPerm_iff]
          exact ⟨fun e => by rw [← e]; exact perm.symm, fun e => sorted_one (perm.trans e) srt (rng_asc n)⟩]
      generalize upd G1 l2 (.lst (nv (List.range n))) = G2 at s2
      by_cases hp : ns.isPerm (natB (List.range n)) = true
      · rw [hp]
        rw [hp, Bool.true_and] at q
        refine iteF ?_
        have ha2 := s2 _ _ ha
        obtain ⟨bs, eb⟩ : ∃ bs, bs = (List.range (n - 1)).map fun i => decide (ns.getD (i / w) 0 < ns.getD (i + 1) 0) := ⟨_, rfl⟩
        have hbl : bs.length = n - 1 := by rw [eb, List.length_map, List.length_range]
        refine ⟨_, rfl, _, _, rfl, ⟨by decide, by decide, by omega, by omega⟩, fun D nD => ?_⟩
        rw [show ((n : Int) - 1).toNat = n - 1 by omega]
        refine lc_it (walk_range (lo := 1) (n := n - 1)) (fun j H' => Acc G2 D ((bs.take j).map V.bl) H') (Acc.start nD) (fun _ _ _ _ => trivial) ?_ ?_
        · rintro j y H3 H4 hj ac ⟨rfl, ey⟩
          obtain rfl : y = V.int ((j + 1 : Nat) : Int) := by
            rw [ey]
            show V.int (1 + (j : Int)) = _
            rw [show (1 : Int) + (j : Int) = ((j + 1 : Nat) : Int) by omega]
          have hj3 : j < bs.length := by omega
          have ej : bs[j] = decide (ns.getD (j / w) 0 < ns.getD (j + 1) 0) := by
            subst eb
            rw [List.getElem_map, List.getElem_range]
          have hdiv : j / w ≤ j := Nat.div_le_self _ _
          have e : Int.fdiv (((j + 1 : Nat) : Int) - 1) (w : Int) = ((j / w : Nat) : Int) := by
            rw [Int.fdiv_eq_ediv_of_nonneg _ (by omega), show (((j + 1 : Nat) : Int) - 1) = ((j : Nat) : Int) by omega]
            rfl
          have ha4 := ac.s _ _ ha2
          refine ⟨rfl, iteT (B := Acc G2 D ((bs.take (j + 1)).map V.bl) H4) ?_⟩
          refine ⟨_, rfl, _, rfl, a, _, _, _, rfl, rfl, SqL.of ha4, atI_nat (int_getD (p := j + 1) (by omega)), ?_⟩
          refine ⟨_, rfl, _, rfl, _, _, rfl, rfl, _, rfl, _, _, rfl, rfl, ⟨by omega, by omega⟩, a, _, _, _, rfl, congrArg V.int e, SqL.of ha4, atI_nat (int_getD (p := j / w) (by omega)), ?_⟩
          refine ⟨_, _, rfl, rfl, ?_⟩
          show ∃ acc, H4 D = some (.lst acc) ∧ acc.length < sizeLine ∧ Acc G2 D ((bs.take (j + 1)).map V.bl) (upd H4 D (.lst (acc ++ [V.bl (decide (ns.getD (j / w) 0 < ns.getD (j + 1) 0))])))
          refine ⟨_, ac.a, by rw [List.length_map, List.length_take, sizeLine_eq]; omega, ?_⟩
          rw [bls_snoc bs hj3, ej]
          exact ac.push
        · intro H3 ac
          rw [← hbl, List.take_length] at ac
          refine ⟨D, bs, rfl, SqL.of ac.a, ?_⟩
          rw [show bs.all id = (List.range (n - 1)).all fun i => decide (ns.getD (i / w) 0 < ns.getD (i + 1) 0) from by
            rw [eb, List.all_map]
            rfl]
          exact q _ (s2.trans ac.s)
      · rw [Bool.eq_false_iff.mpr hp]
        rw [Bool.eq_false_iff.mpr hp, Bool.false_and] at q
        exact iteT (q _ s2)
    · rw [decide_eq_false (show ¬ V.int (ns.length : Nat) = V.int (n : Nat) from fun z => h1 (by injection z with z; exact Int.ofNat.inj z))]
      rw [Bool.eq_false_iff.mpr (fun z => h1 (hlen z)), Bool.false_and] at q
      exact iteT (iteT (q _ (Same.refl _)))
theorem b_lfu (T : Tx K mg A) : L2.Binds K A.d__law_is_full ["row", "many", "wide"] [] := T.F__law_is_full.binds fun _ _ _ _ _ _ us hl => match us, hl with | [_, _, _], _ => rfl
theorem adj_any : ∀ ns : List Int, (List.range (ns.length - 1)).any (fun i => decide (ns.getD (i + 1) 0 ≤ ns.getD i 0)) = !decide (ns.Pairwise (· < ·))
  | [] => by simp
  | [x] => by simp
  | x :: y :: ns => by
    have ih := adj_any (y :: ns)
    rw [show (x :: y :: ns).length - 1 = ((y :: ns).length - 1) + 1 by simp, List.range_succ_eq_map, List.any_cons, List.any_map]
    show (decide (y ≤ x) || (List.range ((y :: ns).length - 1)).any (fun i => decide ((y :: ns).getD (i + 1) 0 ≤ (y :: ns).getD i 0))) = _
    rw [ih]
    by_cases h : x < y
    · rw [decide_eq_false (show ¬ y ≤ x by omega), Bool.false_or]
      refine congrArg not (decide_eq_decide.mpr ⟨fun hp => ?_, fun hp => (List.pairwise_cons.mp hp).2⟩)
      refine List.pairwise_cons.mpr ⟨fun z hz => ?_, hp⟩
      rcases List.mem_cons.mp hz with rfl | hz
      · exact h
      · exact Int.lt_trans h ((List.pairwise_cons.mp hp).1 z hz)
    · rw [decide_eq_true (show y ≤ x by omega), Bool.true_or, decide_eq_false fun hp => h ((List.pairwise_cons.mp hp).1 y List.mem_cons_self)]
      rfl
def spLpa : Sp := fun vs H Q _ => ∃ (a b : Addr) (m : Int) (ns : List Int) (l : List Nat), vs = [.ref a, .ref b, .int m] ∧ H a = some (.tup (ns.map V.int)) ∧ H b = some (.lst (nv l)) ∧ ns.length ≤ 12 ∧ ∀ H' : Hp, Same H H' → Q (.bl (partB ns l m)) H'
theorem ok_lpa (T : Tx K mg A) : FnOk P w K mg base CX0 1 A.f__law_is_part A.d__law_is_part ["places", "able", "most"] spLpa := by
  refine T.F__law_is_part.ok sc__law_is_part (fun vs H Q E h => ?_) (fun cdv B outer s H vs Q E hr h => ?_)
  · obtain ⟨a, b, m, ns, l, rfl, _⟩ := h
    rfl
  · obtain ⟨a, b, m, ns, l, rfl, ha, hb, hl, q⟩ := h
    have nd := sc__law_is_part.nd
    unfold partB at q
    refine ⟨_, PSs.nox (pss_cons (ps_if (pt_val (pe_callB (cr_any rfl) (by rfl) T.g_any (by decide +kernel) (pa_cons (pe_lc (own := [("one", 3), ("other", 4)]) (g := gTup K 2 (gCons (gName 3) (gCons (gName 4) gNil))) (tt := tYes) rfl nd (RZ.pi_zipA (by rfl) T.g_zip (pa_cons (pv 0) (pa_cons (pe_slice (r := rSlS K) sl_tupS (pv 0) (po_some pe_int) po_none) pa_nil))) (blkOk_by (own := [("one", 3), ("other", 4)]) (N := ["places", "able", "most", "one", "other", "place"]) (sc := (defScope s__law_is_part)) (by decide +kernel)) (fun _ _ _ _ _ => pg_tup rfl (pgs_cons (pg_name (i := 3) nd rfl (Or.inl rfl)) (pgs_cons (pg_name (i := 4) nd rfl (Or.inl rfl)) pgs_nil))) (fun _ _ _ _ _ => pts_nil) (fun _ _ _ _ _ => (pe_cmpR op_ge (pv 3) (pv 4) (nomark _)))) pa_nil))) (pss_one (ps_ret pe_bl)) pss_nil)
      (pss_one (ps_ret (pe_and (pe_callB (cr_all rfl) (by rfl) T.g_all (by decide +kernel) (pa_cons (pe_lc (own := [("place", 5)]) (g := gName 5) (tt := tYes) rfl nd (pi_tup (pv 0)) (blkOk_by (own := [("place", 5)]) (N := ["places", "able", "most", "one", "other", "place"]) (sc := (defScope s__law_is_part)) (by decide +kernel)) (fun _ _ _ _ _ => pg_name (i := 5) nd rfl (Or.inl rfl)) (fun _ _ _ _ _ => pts_nil) (fun _ _ _ _ _ => (pe_cmpR (r := L2.rIn K false) op_in_seq (pv 5) (pv 1) (by rfl)))) pa_nil)) (pe_one (pe_cmpR op_gt (pe_callB call_len_seq (by rfl) T.g_len PySem.boot_len (pa_cons (pv 0) pa_nil)) (pv 2) (nomark _))))))), ?_⟩
    refine ⟨_, rfl, _, rfl, _, rfl, a, _, rfl, SqT.of ha, fun u H1 s1 eu => ?_⟩
    rw [cut_one] at eu
    have ha1 := s1 _ _ ha
    have hmin : ns.length - 1 = min (ns.map V.int).length ((ns.drop 1).map V.int).length := by rw [List.length_map, List.length_map, List.length_drop]; omega
    obtain ⟨bs, eb⟩ : ∃ bs, bs = (List.range (ns.length - 1)).map fun i => decide (ns.getD (i + 1) 0 ≤ ns.getD i 0) := ⟨_, rfl⟩
    have hbl : bs.length = ns.length - 1 := by rw [eb, List.length_map, List.length_range]
    refine ⟨a, u, _, _, rfl, .inr ⟨SqT.of ha1, eu, fun D nD => ?_⟩⟩
    refine lc_it (walk_zipT (n := ns.length - 1) hmin) (fun j H' => Acc H1 D ((bs.take j).map V.bl) H') (Acc.start nD) (fun j H' _ ac => ⟨SqT.of (ac.s _ _ ha1), SqT.sm ac.s eu⟩) ?_ ?_
    · rintro j y H2 H3 hj ac ⟨T', x, x2, rfl, hT, rfl, e1, e2⟩
      obtain ⟨hi1, rfl⟩ := int_at e1
      obtain ⟨hi2, rfl⟩ := int_at e2
      have hj3 : j < bs.length := by omega
      have ej : bs[j] = decide (ns.getD (j + 1) 0 ≤ ns.getD j 0) := by
        subst eb
        rw [List.getElem_map, List.getElem_range]
      rw [List.getElem_drop]
      have ac3 := ac.same (Same.up (o := .tup [V.int ns[j], V.int ns[1 + j]]) hT)
      refine ⟨_, _, rfl, SqT.of upd_same, rfl, _, _, rfl, _, _, rfl, rfl, rfl, iteT (B := Acc H1 D ((bs.take (j + 1)).map V.bl) (upd H2 T' (.tup [V.int ns[j], V.int ns[1 + j]]))) ?_⟩
      generalize upd H2 T' (.tup [V.int ns[j], V.int ns[1 + j]]) = G3 at ac3
      refine ⟨_, rfl, _, rfl, _, _, rfl, rfl, ?_⟩
      refine ⟨_, ac3.a, by rw [List.length_map, List.length_take, sizeLine_eq]; omega, ?_⟩
      rw [bls_snoc bs hj3, ej, show (decide (ns.getD (j + 1) 0 ≤ ns.getD j 0)) = decide (ns[1 + j] ≤ ns[j]) from by
        have h1 : ns.getD j 0 = ns[j] := by rw [List.getD_eq_getElem?_getD, List.getElem?_eq_getElem hi1]; rfl
        have h2 : ns.getD (j + 1) 0 = ns[1 + j] := by
          have e : j + 1 = 1 + j := by omega
          rw [e, List.getD_eq_getElem?_getD, List.getElem?_eq_getElem (by omega)]; rfl
        rw [h1, h2]]
      exact ac3.push
    · intro H2 ac
      rw [← hbl, List.take_length] at ac
      refine ⟨D, bs, rfl, SqL.of ac.a, _, rfl, ?_⟩
      rw [show bs.any id = !decide (ns.Pairwise (· < ·)) from by
        rw [eb, List.any_map]
        exact adj_any ns]
      have s12 := s1.trans ac.s
      by_cases hp : ns.Pairwise (· < ·)
      · rw [decide_eq_true hp]
        rw [decide_eq_true hp, Bool.true_and] at q
        refine iteF ?_
        have ha2 := s12 _ _ ha
        have hb2 := s12 _ _ hb
        obtain ⟨cs, ec⟩ : ∃ cs, cs = ns.map fun x => decide (x ∈ natB l) := ⟨_, rfl⟩
        have hcl : cs.length = ns.length := by rw [ec, List.length_map]
        refine ⟨_, rfl, a, rfl, ⟨_, SqT.of ha2⟩, fun D2 nD2 => ?_⟩
        refine lc_it (walk_tup (xs := ns.map V.int)) (fun i H' => Acc H2 D2 ((cs.take i).map V.bl) H') (Acc.start nD2) (fun i H' _ ac => SqT.of (ac.s _ _ ha2)) ?_ ?_
        · rintro j y H3o H3 hj ac2 ⟨rfl, hy⟩
          obtain ⟨hj2, rfl⟩ := int_at hy
          have hj3 : j < cs.length := by omega
          have ej : cs[j] = decide (ns[j] ∈ natB l) := by
            subst ec
            rw [List.getElem_map]
          refine ⟨rfl, iteT (B := Acc H2 D2 ((cs.take (j + 1)).map V.bl) H3) ?_⟩
          refine ⟨_, rfl, _, rfl, b, _, rfl, .inl (SqL.of (ac2.s _ _ hb2)), rfl, nv_flat _, ?_⟩
          rw [if_neg Bool.false_ne_true, inV_int, ← ej]
          refine ⟨_, ac2.a, by rw [List.length_map, List.length_take, sizeLine_eq]; omega, ?_⟩
          rw [bls_snoc cs hj3]
          exact ac2.push
        · intro H3 ac2
          rw [List.length_map, ← hcl, List.take_length] at ac2
          refine ⟨D2, cs, rfl, SqL.of ac2.a, ?_⟩
          rw [show cs.all id = amB ns l from by
            rw [ec, List.all_map]
            rfl]
          have s3 := s12.trans ac2.s
          by_cases hm : amB ns l = true
          · rw [hm]
            rw [hm, Bool.true_and] at q
            refine ⟨_, rfl, iteT ⟨_, rfl, a, _, rfl, .inr (SqT.of (s3 _ _ ha)), _, rfl, _, _, rfl, rfl, ?_⟩⟩
            rw [List.length_map]
            exact q _ s3
          · rw [Bool.eq_false_iff.mpr hm]
            rw [Bool.eq_false_iff.mpr hm, Bool.false_and] at q
            exact ⟨_, rfl, iteF (q _ s3)⟩
      · rw [decide_eq_false hp]
        rw [decide_eq_false hp, Bool.false_and] at q
        exact iteT (q _ s12)
theorem b_lpa (T : Tx K mg A) : L2.Binds K A.d__law_is_part ["places", "able", "most"] [] := T.F__law_is_part.binds fun _ _ _ _ _ _ us hl => match us, hl with | [_, _, _], _ => rfl

end
end Tw

set_option Elab.async false
set_option linter.all false
set_option maxRecDepth 100000
set_option maxHeartbeats 2000000
namespace Tw
open PySem PySem.Spec PyProof.Rows L2
section
variable {P : Program} {w : World} {K : PySem.W.Frag} {mg : Str → Option Value} {base : Heap} {A : Ad}
/-! rows and places to be tried: what they hold isn't asked, only of what kind they are -/
def ILst (H : Hp) (x : V) : Prop := ∃ (t : Addr) (ns : List Int), x = .ref t ∧ H t = some (.lst (ns.map V.int)) ∧ ns.length ≤ 12
def ITup (H : Hp) (x : V) : Prop := ∃ (t : Addr) (ns : List Int), x = .ref t ∧ H t = some (.tup (ns.map V.int)) ∧ ns.length ≤ 12
theorem ILst.same {H H' : Hp} {x : V} (s : Same H H') (h : ILst H x) : ILst H' x := by
  obtain ⟨t, ns, e, a, b⟩ := h
  exact ⟨t, ns, e, s _ _ a, b⟩
theorem ITup.same {H H' : Hp} {x : V} (s : Same H H') (h : ITup H x) : ITup H' x := by
  obtain ⟨t, ns, e, a, b⟩ := h
  exact ⟨t, ns, e, s _ _ a, b⟩
theorem cut_i (ns : List Int) (lo hi : Option Int) : ∃ ms : List Int, cutV (ns.map V.int) lo hi = ms.map V.int ∧ ms.length ≤ ns.length := by
  refine ⟨(ns.drop (HT.sIx (ns.map V.int).length 0 lo)).take (HT.sIx (ns.map V.int).length (ns.map V.int).length hi - HT.sIx (ns.map V.int).length 0 lo), ?_, ?_⟩
  · unfold cutV
    rw [List.map_take, List.map_drop]
  · rw [List.length_take, List.length_drop]
    omega
theorem cut_l (ns : List Int) : ∃ ms : List Int, cutV (ns.map V.int) (some (-1)) none = ms.map V.int ∧ ms.length ≤ 1 := by
  refine ⟨(ns.drop (HT.sIx (ns.map V.int).length 0 (some (-1)))).take (HT.sIx (ns.map V.int).length (ns.map V.int).length none - HT.sIx (ns.map V.int).length 0 (some (-1))), ?_, ?_⟩
  · unfold cutV
    rw [List.map_take, List.map_drop]
  · have e : HT.sIx (ns.map V.int).length 0 (some (-1)) = ns.length - 1 := by
      show (if (-1 : Int) < 0 then ((-1 : Int) + ((ns.map V.int).length : Int)).toNat else min (-1 : Int).toNat (ns.map V.int).length) = _
      rw [if_pos (by decide), List.length_map]
      omega
    rw [e, List.length_take, List.length_drop]
    omega
theorem app_i (a b : List Int) : a.map V.int ++ b.map V.int = (a ++ b).map V.int := List.map_append.symm
theorem rev_i (a : List Int) : (a.map V.int).reverse = a.reverse.map V.int := List.map_reverse.symm
theorem above9 : ∀ w, w < 5 → ∀ p, p < 10 → 1 ≤ w → (aboveL w p).length ≤ 9 := by decide +kernel
def spLro (K : PySem.W.Frag) : Sp := fun vs H Q _ => ∃ (a t : Addr) (n w : Nat) (ns ks : List Int), vs = [.ref a, .int n, .int w, .ref t] ∧ SqL K H a (ns.map V.int) ∧ ns.length ≤ 63 ∧ 1 ≤ n ∧ n ≤ 9 ∧ H t = some (.tup (ks.map V.int)) ∧ ks.length = n ∧
  ∀ (H' : Hp) (q : Addr) (xs : List V), Same H H' → H' q = some (.lst xs) → (∀ x ∈ xs, ILst H' x) → Q (.ref q) H'
theorem ok_lro (T : Tx K mg A) : FnOk P w K mg base CX0 3 A.f__law_rows A.d__law_rows ["script", "many", "wide", "told"] (spLro K) := by
  refine T.F__law_rows.ok sc__law_rows (fun vs H Q E h => ?_) (fun cdv B outer s H vs Q E hr h => ?_)
  · obtain ⟨a, t, n, w, ns, ks, rfl, _⟩ := h
    rfl
  · obtain ⟨a, t, n, w, ns, ks, rfl, ha, h63, h1, h9, ht, hk, q⟩ := h
    have nd := sc__law_rows.nd
    refine ⟨_, PSs.nox (C8.pss_cut (ps_set (i := 4) nd rfl (Or.inl rfl) (pe_listRg rfl (by rfl) T.g_list (prg_1 (by rfl) T.g_range (pv 1))))
      (C8.pss_cut (ps_set (i := 5) nd rfl (Or.inl rfl) (pe_lst (pa_cons (pe_callTy call_list_of (by rfl) T.g_list (by decide +kernel) (pa_cons (pv 3) pa_nil)) (pa_cons (pv 4) (pa_cons (pe_revL (pv 4)) (pa_cons (pe_slice (r := rSlL K) sl_list (pv 4) po_none (po_some (pe_un un_neg pe_int))) (pa_cons (pe_op op_cat (pv 4) (pe_lst (pa_cons (pv 1) pa_nil))) (pa_cons (pe_lc (own := [("key", 11)]) (g := gName 11) (tt := tYes) rfl nd (pi_list (pv 4)) (blkOk_by (own := [("key", 11)]) (N := ["script", "many", "wide", "told", "base", "found", "one", "other", "late", "kept", "same", "key"]) (sc := (defScope s__law_rows)) (by decide +kernel)) (fun _ _ _ _ _ => pg_name (i := 11) nd rfl (Or.inl rfl)) (fun _ _ _ _ _ => pts_nil) (fun _ _ _ _ _ => (pe_op op_add (pv 11) pe_int))) (pa_cons (pe_lst pa_nil) pa_nil)))))))))
      (C8.pss_cut (ps_set (i := 6) nd rfl (Or.inl rfl) (pe_op op_mod (pe_callTy call_int1 (by rfl) T.g_int (by decide +kernel) (pa_cons (pe_call (ok_num T) (hr.mono (by decide)) (by rfl) T.m__law_number T.F__law_number.kp (b_num T) .nil pass0 (pa_cons (pv 0) (pa_cons pe_int pa_nil))) pa_nil)) (pv 1)))
      (C8.pss_cut (ps_set (i := 7) nd rfl (Or.inl rfl) (pe_op op_mod (pe_callTy call_int1 (by rfl) T.g_int (by decide +kernel) (pa_cons (pe_call (ok_num T) (hr.mono (by decide)) (by rfl) T.m__law_number T.F__law_number.kp (b_num T) .nil pass0 (pa_cons (pv 0) (pa_cons pe_int pa_nil))) pa_nil)) (pv 1)))
      (C8.pss_cut (ps_set (i := 8) nd rfl (Or.inl rfl) (pe_callTy call_list_of (by rfl) T.g_list (by decide +kernel) (pa_cons (pv 3) pa_nil)))
      (C8.pss_cut (ps_set (i := 9) nd rfl (Or.inl rfl) (pe_ix ix_list (pv 8) (pv 6) (fun _ _ => rfl)))
      (C8.pss_cut (ps_asg (pe_ix ix_list (pv 8) (pv 7) (fun _ _ => rfl)) (pg_sub (pv 8) (pv 6) set_list))
      (C8.pss_cut (ps_asg (pv 9) (pg_sub (pv 8) (pv 7) set_list))
      (C8.pss_cut (ps_set (i := 10) nd rfl (Or.inl rfl) (pe_callTy call_list_of (by rfl) T.g_list (by decide +kernel) (pa_cons (pv 3) pa_nil)))
      (C8.pss_cut (ps_asg (pe_ix ix_list (pv 10) (pv 7) (fun _ _ => rfl)) (pg_sub (pv 10) (pv 6) set_list))
      (pss_one (ps_ret (pe_op op_cat (pv 5) (pe_lst (pa_cons (pv 8) (pa_cons (pv 10) (pa_cons (pe_op op_cat (pe_slice (r := rSlL K) sl_list (pe_callTy call_list_of (by rfl) T.g_list (by decide +kernel) (pa_cons (pv 3) pa_nil)) (po_some pe_int) po_none) (pe_slice (r := rSlL K) sl_list (pe_callTy call_list_of (by rfl) T.g_list (by decide +kernel) (pa_cons (pv 3) pa_nil)) po_none (po_some pe_int))) pa_nil))))))))))))))))), ?_⟩
    refine ⟨fun σ' H' => ∃ b : Addr, σ' = [some (.ref a), some (.int n), some (.int w), some (.ref t), some (.ref b), none, none, none, none, none, none, none] ∧ Same H H' ∧ H' b = some (.lst ((natB (List.range n)).map V.int)), ?_, ?_⟩
    · refine ⟨_, rfl, _, rfl, RgOk.of_le (by omega) (by omega) (by omega) (by omega), fun b nb => ⟨b, rfl, Same.up nb, ?_⟩⟩
      rw [nv_rg]
      exact upd_same
    rintro σ' H1 ⟨b, rfl, s1, eb⟩
    have ht1 := s1 _ _ ht
    have hbl : (natB (List.range n)).length = n := by rw [natB_len, List.length_range]
    generalize natB (List.range n) = bn at eb hbl
    refine ⟨fun σ' H' => ∃ (q5 : Addr) (xs : List V), σ' = [some (.ref a), some (.int n), some (.int w), some (.ref t), some (.ref b), some (.ref q5), none, none, none, none, none, none] ∧ Same H H' ∧ H' q5 = some (.lst xs) ∧ xs.length ≤ 12 ∧ ∀ x ∈ xs, ILst H' x, ?_, ?_⟩
    · refine ⟨_, rfl, t, _, rfl, .inr (SqT.of ht1), fun c1 mm1 => ?_⟩
      have uu1 := Same.up (o := .lst (ks.map V.int)) mm1
      have f_c1 : upd H1 c1 (.lst (ks.map V.int)) c1 = some (.lst (ks.map V.int)) := upd_same
      generalize upd H1 c1 (.lst (ks.map V.int)) = L1 at uu1 f_c1 ⊢
      have ht1 := uu1 _ _ ht1
      have eb := uu1 _ _ eb
      refine ⟨_, rfl, _, rfl, b, _, rfl, SqL.of eb, fun c2 mm2 => ?_⟩
      have uu2 := Same.up (o := .lst ((bn.map V.int).reverse)) mm2
      have f_c2 : upd L1 c2 (.lst ((bn.map V.int).reverse)) c2 = some (.lst ((bn.map V.int).reverse)) := upd_same
      generalize upd L1 c2 (.lst ((bn.map V.int).reverse)) = L2 at uu2 f_c2 ⊢
      have ht1 := uu2 _ _ ht1
      have eb := uu2 _ _ eb
      have f_c1 := uu2 _ _ f_c1
      refine ⟨_, rfl, _, rfl, _, rfl, b, _, rfl, SqL.of eb, fun c3 mm3 => ?_⟩
      have uu3 := Same.up (o := .lst (cutV (bn.map V.int) none (some (-1)))) mm3
      have f_c3 : upd L2 c3 (.lst (cutV (bn.map V.int) none (some (-1)))) c3 = some (.lst (cutV (bn.map V.int) none (some (-1)))) := upd_same
      generalize upd L2 c3 (.lst (cutV (bn.map V.int) none (some (-1)))) = L3 at uu3 f_c3 ⊢
      have ht1 := uu3 _ _ ht1
      have eb := uu3 _ _ eb
      have f_c1 := uu3 _ _ f_c1
      have f_c2 := uu3 _ _ f_c2
      refine ⟨_, rfl, _, rfl, by show 1 ≤ sizeLine; decide, fun c4 mm4 => ?_⟩
      have uu4 := Same.up (o := .lst ([V.int n])) mm4
      have f_c4 : upd L3 c4 (.lst ([V.int n])) c4 = some (.lst ([V.int n])) := upd_same
      generalize upd L3 c4 (.lst ([V.int n])) = L4 at uu4 f_c4 ⊢
      have ht1 := uu4 _ _ ht1
      have eb := uu4 _ _ eb
      have f_c1 := uu4 _ _ f_c1
      have f_c2 := uu4 _ _ f_c2
      have f_c3 := uu4 _ _ f_c3
      refine ⟨b, c4, _, _, rfl, rfl, eb, f_c4, by rw [List.length_map, List.length_singleton, sizeLine_eq]; omega, fun c5 mm5 => ?_⟩
      have uu5 := Same.up (o := .lst (bn.map V.int ++ [V.int n])) mm5
      have f_c5 : upd L4 c5 (.lst (bn.map V.int ++ [V.int n])) c5 = some (.lst (bn.map V.int ++ [V.int n])) := upd_same
      generalize upd L4 c5 (.lst (bn.map V.int ++ [V.int n])) = L5 at uu5 f_c5 ⊢
      have ht1 := uu5 _ _ ht1
      have eb := uu5 _ _ eb
      have f_c1 := uu5 _ _ f_c1
      have f_c2 := uu5 _ _ f_c2
      have f_c3 := uu5 _ _ f_c3
      have f_c4 := uu5 _ _ f_c4
      refine ⟨_, rfl, b, rfl, ⟨_, SqL.of eb⟩, fun D nD => ?_⟩
      refine lc_it (walk_list (xs := bn.map V.int)) (fun j H' => Acc L5 D ((bn.take j).map fun x => V.int (x + 1)) H') (Acc.start nD) (fun j H' _ ac => SqL.of (ac.s _ _ eb)) ?_ ?_
      · rintro j y H4 H5 hj ac ⟨rfl, hy⟩
        obtain ⟨hj2, rfl⟩ := int_at hy
        refine ⟨rfl, iteT (B := Acc L5 D ((bn.take (j + 1)).map fun x => V.int (x + 1)) H5) ?_⟩
        refine ⟨_, rfl, _, _, rfl, rfl, _, ac.a, by rw [List.length_map, List.length_take, sizeLine_eq]; omega, ?_⟩
        rw [← List.take_append_getElem hj2, List.map_append]
        exact ac.push
      intro H5 ac
      rw [List.length_map, List.take_of_length_le (Nat.le_refl _)] at ac
      have eD : H5 D = some (.lst (bn.map fun x => V.int (x + 1))) := ac.a
      have ht1 := ac.s _ _ ht1
      have eb := ac.s _ _ eb
      have f_c1 := ac.s _ _ f_c1
      have f_c2 := ac.s _ _ f_c2
      have f_c3 := ac.s _ _ f_c3
      have f_c5 := ac.s _ _ f_c5
      refine ⟨Nat.zero_le _, fun c6 mm21 => ?_⟩
      have uu21 := Same.up (o := .lst ([])) mm21
      have f_c6 : upd H5 c6 (.lst ([])) c6 = some (.lst ([])) := upd_same
      generalize upd H5 c6 (.lst ([])) = L21 at uu21 f_c6 ⊢
      have ht1 := uu21 _ _ ht1
      have eb := uu21 _ _ eb
      have f_c1 := uu21 _ _ f_c1
      have f_c2 := uu21 _ _ f_c2
      have f_c3 := uu21 _ _ f_c3
      have f_c5 := uu21 _ _ f_c5
      have eD := uu21 _ _ eD
      refine ⟨by show 7 ≤ sizeLine; decide, fun q5 mm22 => ?_⟩
      have uu22 := Same.up (o := .lst ([V.ref c1, V.ref b, V.ref c2, V.ref c3, V.ref c5, V.ref D, V.ref c6])) mm22
      have f_q5 : upd L21 q5 (.lst ([V.ref c1, V.ref b, V.ref c2, V.ref c3, V.ref c5, V.ref D, V.ref c6])) q5 = some (.lst ([V.ref c1, V.ref b, V.ref c2, V.ref c3, V.ref c5, V.ref D, V.ref c6])) := upd_same
      generalize upd L21 q5 (.lst ([V.ref c1, V.ref b, V.ref c2, V.ref c3, V.ref c5, V.ref D, V.ref c6])) = L22 at uu22 f_q5 ⊢
      have ht1 := uu22 _ _ ht1
      have eb := uu22 _ _ eb
      have f_c1 := uu22 _ _ f_c1
      have f_c2 := uu22 _ _ f_c2
      have f_c3 := uu22 _ _ f_c3
      have f_c5 := uu22 _ _ f_c5
      have eD := uu22 _ _ eD
      have f_c6 := uu22 _ _ f_c6
      refine ⟨q5, _, rfl, s1.trans ((uu1.trans (uu2.trans (uu3.trans (uu4.trans (uu5))))).trans (ac.s.trans (uu21.trans (uu22)))), f_q5, by show 7 ≤ 12; decide, fun x hx => ?_⟩
      simp only [List.mem_cons, List.not_mem_nil, or_false] at hx
      obtain ⟨ms, em, lm⟩ := cut_i bn none (some (-1))
      rcases hx with rfl | rfl | rfl | rfl | rfl | rfl | rfl
      · exact ⟨c1, ks, rfl, f_c1, by omega⟩
      · exact ⟨b, bn, rfl, eb, by omega⟩
      · exact ⟨c2, bn.reverse, rfl, by rw [f_c2, rev_i], by rw [List.length_reverse]; omega⟩
      · exact ⟨c3, ms, rfl, by rw [f_c3, em], by omega⟩
      · exact ⟨c5, bn ++ [(n : Int)], rfl, by rw [f_c5, List.map_append]; rfl, by rw [List.length_append, List.length_singleton]; omega⟩
      · exact ⟨D, bn.map fun x => x + 1, rfl, by rw [eD, List.map_map]; rfl, by rw [List.length_map]; omega⟩
      · exact ⟨c6, [], rfl, f_c6, by decide⟩
    rintro σ' H2 ⟨q5, xs, rfl, s2, e5, l5, r5⟩
    have pick : ∀ r : Int, ∃ i : Nat, r % (n : Int) = (i : Int) ∧ i < n := fun r => by
      have a0 := Int.emod_nonneg r (show (n : Int) ≠ 0 by omega)
      have a1 := Int.emod_lt_of_pos r (show (0 : Int) < (n : Int) by omega)
      exact ⟨(r % (n : Int)).toNat, (Int.toNat_of_nonneg a0).symm, by omega⟩
    refine ⟨fun σ' H' => ∃ i : Nat, σ' = [some (.ref a), some (.int n), some (.int w), some (.ref t), some (.ref b), some (.ref q5), some (.int i), none, none, none, none, none] ∧ i < n ∧ Same H2 H', ?_, ?_⟩
    · refine ⟨_, rfl, a, ns, 4, rfl, s2.seq ha, h63, by omega, fun H3 r s3 => .inl ⟨_, rfl, _, rfl, _, _, rfl, rfl, by omega, ?_⟩⟩
      obtain ⟨i, ei, hi⟩ := pick r
      exact ⟨i, congrArg (fun z => [some (V.ref a), some (V.int n), some (V.int w), some (V.ref t), some (V.ref b), some (V.ref q5), some (V.int z), none, none, none, none, none]) ei, hi, s3⟩
    rintro σ' H3 ⟨i, rfl, hi, s3⟩
    refine ⟨fun σ' H' => ∃ j : Nat, σ' = [some (.ref a), some (.int n), some (.int w), some (.ref t), some (.ref b), some (.ref q5), some (.int i), some (.int j), none, none, none, none] ∧ j < n ∧ Same H2 H', ?_, ?_⟩
    · refine ⟨_, rfl, a, ns, 5, rfl, (s2.trans s3).seq ha, h63, by omega, fun H4 r s4 => .inl ⟨_, rfl, _, rfl, _, _, rfl, rfl, by omega, ?_⟩⟩
      obtain ⟨j, ej, hj⟩ := pick r
      exact ⟨j, congrArg (fun z => [some (V.ref a), some (V.int n), some (V.int w), some (V.ref t), some (V.ref b), some (V.ref q5), some (V.int i), some (V.int z), none, none, none, none]) ej, hj, s3.trans s4⟩
    rintro σ' H4 ⟨j, rfl, hj, s4⟩
    have ixI : ∀ {m : Nat} (l : List Int), l.length = n → m < n → ixN (l.map V.int).length (m : Int) = some m := fun l hl hm => by
      unfold ixN
      rw [if_pos (by omega), Int.toNat_natCast, if_pos (by rw [List.length_map]; omega)]
    have setI : ∀ (l : List Int) (m : Nat) (x : Int), (l.map V.int).set m (V.int x) = (l.set m x).map V.int := fun l m x => by rw [List.map_set]
    refine ⟨fun σ' H' => ∃ l8 : Addr, σ' = [some (.ref a), some (.int n), some (.int w), some (.ref t), some (.ref b), some (.ref q5), some (.int i), some (.int j), some (.ref l8), none, none, none] ∧ Same H4 H' ∧ H4 l8 = none ∧ H' l8 = some (.lst (ks.map V.int)), ?_, ?_⟩
    · exact ⟨_, rfl, t, _, rfl, .inr (SqT.of (s4 _ _ (s2 _ _ ht))), fun l8 n8 => ⟨l8, rfl, Same.up n8, n8, upd_same⟩⟩
    rintro σ' H5 ⟨l8, rfl, s5, n8, e8⟩
    refine ⟨fun σ' H' => ∃ v : V, σ' = [some (.ref a), some (.int n), some (.int w), some (.ref t), some (.ref b), some (.ref q5), some (.int i), some (.int j), some (.ref l8), some v, none, none] ∧ Same H4 H' ∧ H' l8 = some (.lst (ks.map V.int)) ∧ ∃ x : Int, v = .int x, ?_, ?_⟩
    · exact ⟨_, rfl, _, rfl, l8, _, _, _, rfl, rfl, SqL.of e8, atI_nat (int_getD (p := i) (by omega)), _, rfl, s5, e8, _, rfl⟩
    rintro σ' H6 ⟨v, rfl, s6, e8, x9, rfl⟩
    have keep : ∀ {G : Hp} {o : HO}, Same H4 G → Same H4 (upd G l8 o) := fun s b' o' e => by
      rw [upd_ne (ne_of_none e n8)]
      exact s _ _ e
    refine ⟨fun σ' H' => ∃ ms : List Int, σ' = [some (.ref a), some (.int n), some (.int w), some (.ref t), some (.ref b), some (.ref q5), some (.int i), some (.int j), some (.ref l8), some (.int x9), none, none] ∧ Same H4 H' ∧ H' l8 = some (.lst (ms.map V.int)) ∧ ms.length = n, ?_, ?_⟩
    · refine ⟨_, rfl, _, rfl, l8, _, _, _, rfl, rfl, SqL.of e8, atI_nat (int_getD (p := j) (by omega)), _, rfl, _, rfl, l8, _, _, i, rfl, rfl, e8, ixI ks hk hi, ?_⟩
      rw [setI]
      exact ⟨_, rfl, keep s6, upd_same, by rw [List.length_set]; exact hk⟩
    rintro σ' H7 ⟨ms, rfl, s7, e8, hms⟩
    refine ⟨fun σ' H' => ∃ ms : List Int, σ' = [some (.ref a), some (.int n), some (.int w), some (.ref t), some (.ref b), some (.ref q5), some (.int i), some (.int j), some (.ref l8), some (.int x9), none, none] ∧ Same H4 H' ∧ H' l8 = some (.lst (ms.map V.int)) ∧ ms.length = n, ?_, ?_⟩
    · refine ⟨_, rfl, _, rfl, _, rfl, l8, _, _, j, rfl, rfl, e8, ixI ms hms hj, ?_⟩
      rw [setI]
      exact ⟨_, rfl, keep s7, upd_same, by rw [List.length_set]; exact hms⟩
    rintro σ' H8 ⟨ms, rfl, s8, e8, hms⟩
    have ht8 := s8 _ _ (s4 _ _ (s2 _ _ ht))
    refine ⟨fun σ' H' => ∃ lA : Addr, σ' = [some (.ref a), some (.int n), some (.int w), some (.ref t), some (.ref b), some (.ref q5), some (.int i), some (.int j), some (.ref l8), some (.int x9), some (.ref lA), none] ∧ Same H8 H' ∧ H8 lA = none ∧ H' lA = some (.lst (ks.map V.int)), ?_, ?_⟩
    · exact ⟨_, rfl, t, _, rfl, .inr (SqT.of ht8), fun lA nA => ⟨lA, rfl, Same.up nA, nA, upd_same⟩⟩
    rintro σ' H9 ⟨lA, rfl, s9, nA, eA⟩
    refine ⟨fun σ' H' => ∃ ls : List Int, σ' = [some (.ref a), some (.int n), some (.int w), some (.ref t), some (.ref b), some (.ref q5), some (.int i), some (.int j), some (.ref l8), some (.int x9), some (.ref lA), none] ∧ Same H8 H' ∧ H' lA = some (.lst (ls.map V.int)) ∧ ls.length = n, ?_, ?_⟩
    · refine ⟨_, rfl, _, rfl, lA, _, _, _, rfl, rfl, SqL.of eA, atI_nat (int_getD (p := j) (by omega)), _, rfl, _, rfl, lA, _, _, i, rfl, rfl, eA, ixI ks hk hi, ?_⟩
      rw [setI]
      refine ⟨_, rfl, fun b' o' e => ?_, upd_same, by rw [List.length_set]; exact hk⟩
      rw [upd_ne (ne_of_none e nA)]
      exact s9 _ _ e
    rintro σ' HA ⟨ls, rfl, sA, eA, hls⟩
    have htA := sA _ _ ht8
    have e8A := sA _ _ e8
    have s2A := s4.trans (s8.trans sA)
    have e5A := s2A _ _ e5
    refine ⟨_, rfl, _, rfl, _, rfl, _, rfl, t, _, rfl, .inr (SqT.of htA), fun d1 mm41 => ?_⟩
    have uu41 := Same.up (o := .lst (ks.map V.int)) mm41
    have f_d1 : upd HA d1 (.lst (ks.map V.int)) d1 = some (.lst (ks.map V.int)) := upd_same
    generalize upd HA d1 (.lst (ks.map V.int)) = L41 at uu41 f_d1 ⊢
    have htA := uu41 _ _ htA
    have e8A := uu41 _ _ e8A
    have eA := uu41 _ _ eA
    have e5A := uu41 _ _ e5A
    refine ⟨_, rfl, d1, _, rfl, SqL.of f_d1, fun d2 mm42 => ?_⟩
    have uu42 := Same.up (o := .lst (cutV (ks.map V.int) (some 1) none)) mm42
    have f_d2 : upd L41 d2 (.lst (cutV (ks.map V.int) (some 1) none)) d2 = some (.lst (cutV (ks.map V.int) (some 1) none)) := upd_same
    generalize upd L41 d2 (.lst (cutV (ks.map V.int) (some 1) none)) = L42 at uu42 f_d2 ⊢
    have htA := uu42 _ _ htA
    have e8A := uu42 _ _ e8A
    have eA := uu42 _ _ eA
    have e5A := uu42 _ _ e5A
    have f_d1 := uu42 _ _ f_d1
    refine ⟨_, rfl, t, _, rfl, .inr (SqT.of htA), fun d3 mm43 => ?_⟩
    have uu43 := Same.up (o := .lst (ks.map V.int)) mm43
    have f_d3 : upd L42 d3 (.lst (ks.map V.int)) d3 = some (.lst (ks.map V.int)) := upd_same
    generalize upd L42 d3 (.lst (ks.map V.int)) = L43 at uu43 f_d3 ⊢
    have htA := uu43 _ _ htA
    have e8A := uu43 _ _ e8A
    have eA := uu43 _ _ eA
    have e5A := uu43 _ _ e5A
    have f_d1 := uu43 _ _ f_d1
    have f_d2 := uu43 _ _ f_d2
    refine ⟨_, rfl, d3, _, rfl, SqL.of f_d3, fun d4 mm44 => ?_⟩
    have uu44 := Same.up (o := .lst (cutV (ks.map V.int) none (some 1))) mm44
    have f_d4 : upd L43 d4 (.lst (cutV (ks.map V.int) none (some 1))) d4 = some (.lst (cutV (ks.map V.int) none (some 1))) := upd_same
    generalize upd L43 d4 (.lst (cutV (ks.map V.int) none (some 1))) = L44 at uu44 f_d4 ⊢
    have htA := uu44 _ _ htA
    have e8A := uu44 _ _ e8A
    have eA := uu44 _ _ eA
    have e5A := uu44 _ _ e5A
    have f_d1 := uu44 _ _ f_d1
    have f_d2 := uu44 _ _ f_d2
    have f_d3 := uu44 _ _ f_d3
    obtain ⟨m1, em1, lm1⟩ := cut_i ks (some 1) none
    obtain ⟨m2, em2, lm2⟩ := cut_i ks none (some 1)
    have hd5 : (cutV (ks.map V.int) (some 1) none).length + (cutV (ks.map V.int) none (some 1)).length ≤ 18 := by rw [em1, em2, List.length_map, List.length_map]; omega
    refine ⟨d2, d4, _, _, rfl, rfl, f_d2, f_d4, by rw [sizeLine_eq]; omega, fun d5 mm45 => ?_⟩
    have uu45 := Same.up (o := .lst (cutV (ks.map V.int) (some 1) none ++ cutV (ks.map V.int) none (some 1))) mm45
    have f_d5 : upd L44 d5 (.lst (cutV (ks.map V.int) (some 1) none ++ cutV (ks.map V.int) none (some 1))) d5 = some (.lst (cutV (ks.map V.int) (some 1) none ++ cutV (ks.map V.int) none (some 1))) := upd_same
    generalize upd L44 d5 (.lst (cutV (ks.map V.int) (some 1) none ++ cutV (ks.map V.int) none (some 1))) = L45 at uu45 f_d5 ⊢
    have htA := uu45 _ _ htA
    have e8A := uu45 _ _ e8A
    have eA := uu45 _ _ eA
    have e5A := uu45 _ _ e5A
    have f_d1 := uu45 _ _ f_d1
    have f_d2 := uu45 _ _ f_d2
    have f_d3 := uu45 _ _ f_d3
    have f_d4 := uu45 _ _ f_d4
    refine ⟨by show 3 ≤ sizeLine; decide, fun d6 mm46 => ?_⟩
    have uu46 := Same.up (o := .lst ([V.ref l8, V.ref lA, V.ref d5])) mm46
    have f_d6 : upd L45 d6 (.lst ([V.ref l8, V.ref lA, V.ref d5])) d6 = some (.lst ([V.ref l8, V.ref lA, V.ref d5])) := upd_same
    generalize upd L45 d6 (.lst ([V.ref l8, V.ref lA, V.ref d5])) = L46 at uu46 f_d6 ⊢
    have htA := uu46 _ _ htA
    have e8A := uu46 _ _ e8A
    have eA := uu46 _ _ eA
    have e5A := uu46 _ _ e5A
    have f_d1 := uu46 _ _ f_d1
    have f_d2 := uu46 _ _ f_d2
    have f_d3 := uu46 _ _ f_d3
    have f_d4 := uu46 _ _ f_d4
    have f_d5 := uu46 _ _ f_d5
    refine ⟨q5, d6, _, _, rfl, rfl, e5A, f_d6, by show xs.length + 3 ≤ sizeLine; rw [sizeLine_eq]; omega, fun d7 mm47 => ?_⟩
    have uu47 := Same.up (o := .lst (xs ++ [V.ref l8, V.ref lA, V.ref d5])) mm47
    have f_d7 : upd L46 d7 (.lst (xs ++ [V.ref l8, V.ref lA, V.ref d5])) d7 = some (.lst (xs ++ [V.ref l8, V.ref lA, V.ref d5])) := upd_same
    generalize upd L46 d7 (.lst (xs ++ [V.ref l8, V.ref lA, V.ref d5])) = L47 at uu47 f_d7 ⊢
    have htA := uu47 _ _ htA
    have e8A := uu47 _ _ e8A
    have eA := uu47 _ _ eA
    have e5A := uu47 _ _ e5A
    have f_d1 := uu47 _ _ f_d1
    have f_d2 := uu47 _ _ f_d2
    have f_d3 := uu47 _ _ f_d3
    have f_d4 := uu47 _ _ f_d4
    have f_d5 := uu47 _ _ f_d5
    have f_d6 := uu47 _ _ f_d6
    have sF := s2A.trans (uu41.trans (uu42.trans (uu43.trans (uu44.trans (uu45.trans (uu46.trans (uu47)))))))
    refine q _ d7 _ (s2.trans sF) f_d7 fun x hx => ?_
    rcases List.mem_append.mp hx with hx | hx
    · exact (r5 x hx).same sF
    · simp only [List.mem_cons, List.not_mem_nil, or_false] at hx
      rcases hx with rfl | rfl | rfl
      · exact ⟨l8, ms, rfl, e8A, by omega⟩
      · exact ⟨lA, ls, rfl, eA, by omega⟩
      · refine ⟨d5, m1 ++ m2, rfl, by rw [f_d5, em1, em2, List.map_append], ?_⟩
        have hx1 : m1.length ≤ ks.length - 1 ∨ ks.length ≤ 1 := by
          by_cases hz : ks.length ≤ 1
          · exact .inr hz
          · refine .inl ?_
            have : (cutV (ks.map V.int) (some 1) none).length = m1.length := by rw [em1, List.length_map]
            rw [cut_first, List.length_drop, List.length_map] at this
            omega
        have hx2 : m2.length ≤ 1 := by
          have e2 : (cutV (ks.map V.int) none (some 1)).length = m2.length := by rw [em2, List.length_map]
          unfold cutV at e2
          rw [HT.sIx_none, show (1 : Int) = ((1 : Nat) : Int) from rfl, HT.sIx_nat, List.length_take] at e2
          omega
        rw [List.length_append]
        omega
theorem b_lro (T : Tx K mg A) : L2.Binds K A.d__law_rows ["script", "many", "wide", "told"] [] := T.F__law_rows.binds fun _ _ _ _ _ _ us hl => match us, hl with | [_, _, _, _], _ => rfl

end
end Tw

set_option Elab.async false
set_option linter.all false
set_option maxRecDepth 100000
set_option maxHeartbeats 2000000
namespace Tw
open PySem PySem.Spec PyProof.Rows L2
section
variable {P : Program} {w : World} {K : PySem.W.Frag} {mg : Str → Option Value} {base : Heap} {A : Ad}
/-! places to be tried -/
def spLch (K : PySem.W.Frag) : Sp := fun vs H Q _ => ∃ (a n p w : Nat) (ns : List Int), vs = [.ref a, .int n, .int p, .int w] ∧ SqL K H a (ns.map V.int) ∧ ns.length ≤ 63 ∧ 1 ≤ n ∧ n ≤ 9 ∧ p < n ∧ (1 ≤ w ∧ w ≤ 4) ∧
  ∀ (H' : Hp) (q : Addr) (xs : List V), Same H H' → H' q = some (.lst xs) → (∀ x ∈ xs, ITup H' x) → Q (.ref q) H'
theorem ok_lch (T : Tx K mg A) : FnOk P w K mg base CX0 3 A.f__law_choices A.d__law_choices ["script", "many", "place", "wide"] (spLch K) := by
  refine T.F__law_choices.ok sc__law_choices (fun vs H Q E h => ?_) (fun cdv B outer s H vs Q E hr h => ?_)
  · obtain ⟨a, n, p, w, ns, rfl, _⟩ := h
    rfl
  · obtain ⟨a, n, p, w, ns, rfl, ha, h63, h1, h9, hp, hw, q⟩ := h
    have nd := sc__law_choices.nd
    refine ⟨_, PSs.nox (C8.pss_cut (ps_set (i := 4) nd rfl (Or.inl rfl) (pe_callB cr_sortedI (by rfl) T.g_sorted (by decide +kernel) (pa_cons (pe_call (ok_lab T) (hr.mono (by decide)) (by rfl) T.m__law_above T.F__law_above.kp (b_lab T) .nil pass0 (pa_cons (pv 2) (pa_cons (pv 3) pa_nil))) pa_nil)))
      (C8.pss_cut (ps_set (i := 5) nd rfl (Or.inl rfl) (pe_call (ok_lbe T) (hr.mono (by decide)) (by rfl) T.m__law_below T.F__law_below.kp (b_lbe T) .nil pass0 (pa_cons (pv 1) (pa_cons (pv 2) (pa_cons (pv 3) pa_nil)))))
      (C8.pss_cut (ps_set (i := 6) nd rfl (Or.inl rfl) (pe_lst (pa_cons (pe_callTy call_tuple_of (by rfl) T.g_tuple (by decide +kernel) (pa_cons (pv 4) pa_nil)) (pa_cons (pe_callTy call_tuple_of (by rfl) T.g_tuple (by decide +kernel) (pa_cons (pv 5) pa_nil)) (pa_cons (pe_callTy call_tuple_of (by rfl) T.g_tuple (by decide +kernel) (pa_cons (pe_slice (r := rSlL K) sl_list (pv 4) (po_some pe_int) po_none) pa_nil)) (pa_cons (pe_callTy call_tuple_of (by rfl) T.g_tuple (by decide +kernel) (pa_cons (pe_slice (r := rSlL K) sl_list (pv 5) (po_some pe_int) po_none) pa_nil)) (pa_cons (pe_callTy call_tuple_of (by rfl) T.g_tuple (by decide +kernel) (pa_cons (pe_slice (r := rSlL K) sl_list (pv 4) po_none (po_some (pe_un un_neg pe_int))) pa_nil)) (pa_cons (pe_callTy call_tuple_of (by rfl) T.g_tuple (by decide +kernel) (pa_cons (pe_slice (r := rSlL K) sl_list (pv 5) po_none (po_some (pe_un un_neg pe_int))) pa_nil)) pa_nil))))))))
      (C8.pss_cut (ps_set (i := 6) nd rfl (Or.inl rfl) (pe_op op_cat (pv 6) (pe_lst (pa_cons (pe_callTy call_tuple_of (by rfl) T.g_tuple (by decide +kernel) (pa_cons (pe_op op_cat (pv 4) (pe_lst (pa_cons (pv 2) pa_nil))) pa_nil)) (pa_cons (pe_callTy call_tuple_of (by rfl) T.g_tuple (by decide +kernel) (pa_cons (pe_op op_cat (pe_lst (pa_cons (pv 2) pa_nil)) (pv 5)) pa_nil)) (pa_cons (pe_callTy call_tuple_of (by rfl) T.g_tuple (by decide +kernel) (pa_cons (pe_revL (pv 4)) pa_nil)) (pa_cons (pe_callTy call_tuple_of (by rfl) T.g_tuple (by decide +kernel) (pa_cons (pe_revL (pv 5)) pa_nil)) (pa_cons (pe_tup pa_nil) pa_nil))))))))
      (C8.pss_cut (ps_set (i := 6) nd rfl (Or.inl rfl) (pe_op op_cat (pv 6) (pe_lst (pa_cons (pe_callTy call_tuple_of (by rfl) T.g_tuple (by decide +kernel) (pa_cons (pe_op op_cat (pv 4) (pe_slice (r := rSlL K) sl_list (pv 4) (po_some (pe_un un_neg pe_int)) po_none)) pa_nil)) (pa_cons (pe_callTy call_tuple_of (by rfl) T.g_tuple (by decide +kernel) (pa_cons (pe_op op_cat (pv 5) (pe_slice (r := rSlL K) sl_list (pv 5) (po_some (pe_un un_neg pe_int)) po_none)) pa_nil)) (pa_cons (pe_tupRg rfl (by rfl) T.g_tuple (prg_1 (by rfl) T.g_range (pv 1))) (pa_cons (pe_tup (pa_cons (pv 1) pa_nil)) (pa_cons (pe_tup (pa_cons (pe_un un_neg pe_int) pa_nil)) pa_nil))))))))
      (C8.pss_cut (ps_setLc (i := 7) (own := [("one", 8)]) (g := gName 8) rfl nd rfl rfl (sw_true rfl rfl rfl (by decide +kernel)) (pi_range1 rfl T.g_range (pa_cons (pv 1) pa_nil)) (blkOk_by (own := [("one", 8)]) (N := ["script", "many", "place", "wide", "above", "below", "found", "drawn", "one"]) (sc := (defScope s__law_choices)) (by decide +kernel)) (fun _ _ _ _ _ => pg_name (i := 8) nd rfl (Or.inl rfl)) (fun _ _ _ _ _ => pts_one (pt_cmpR op_eq (pe_op op_mod (pe_callTy call_int1 (by rfl) T.g_int (by decide +kernel) (pa_cons (pe_call (ok_num T) (hr.mono (by decide)) (by rfl) T.m__law_number T.F__law_number.kp (b_num T) .nil pass0 (pa_cons (pv 0) (pa_cons (pe_op op_add pe_int (pv 8)) pa_nil))) pa_nil)) pe_int) pe_int (nomark _))) (fun _ _ _ _ _ => (pv 8)))
      (pss_one (ps_ret (pe_op op_cat (pv 6) (pe_lst (pa_cons (pe_callTy call_tuple_of (by rfl) T.g_tuple (by decide +kernel) (pa_cons (pv 7) pa_nil)) pa_nil))))))))))), ?_⟩
    refine ⟨fun σ' H' => ∃ (l4 : Addr) (us : List Int), σ' = [some (.ref a), some (.int n), some (.int p), some (.int w), some (.ref l4), none, none, none, none] ∧ Same H H' ∧ H' l4 = some (.lst (us.map V.int)) ∧ us.length ≤ 9, ?_, ?_⟩
    · refine ⟨_, rfl, _, rfl, p, w, rfl, by omega, hw, fun H1 z s1 n1 e1 => ?_⟩
      refine ⟨z, natB (aboveL w p), rfl, SqL.of e1, fun ns' l perm srt nl => ⟨l, ns', rfl, s1.trans (Same.up nl), upd_same, ?_⟩⟩
      rw [perm.length_eq, natB_len]
      exact above9 w (by omega) p (by omega) hw.1
    rintro σ' H1 ⟨l4, us, rfl, s1, e4, l4l⟩
    refine ⟨fun σ' H' => ∃ (l5 : Addr) (vs : List Int), σ' = [some (.ref a), some (.int n), some (.int p), some (.int w), some (.ref l4), some (.ref l5), none, none, none] ∧ Same H1 H' ∧ H' l5 = some (.lst (vs.map V.int)) ∧ vs.length ≤ 9, ?_, ?_⟩
    · refine ⟨_, rfl, _, rfl, _, rfl, n, p, w, rfl, by omega, hw, fun H2 z s2 n2 e2 => ⟨z, natB (belowL n w p), rfl, s2, e2, ?_⟩⟩
      rw [natB_len]
      unfold belowL
      exact Nat.le_trans (List.length_filter_le _ _) (by rw [List.length_range]; exact h9)
    rintro σ' H2 ⟨l5, vs, rfl, s2, e5, l5l⟩
    have e4 := s2 _ _ e4
    have s12 := s1.trans s2
    have tup : ∀ {G : Hp} {t : Addr} {xs : List V} {ms : List Int}, G t = some (.tup xs) → xs = ms.map V.int → ms.length ≤ 12 → ITup G (.ref t) := fun {G t xs ms} e z l => ⟨t, ms, rfl, by rw [e, z], l⟩
    obtain ⟨a1, ea1, la1⟩ := cut_i us (some 1) none
    obtain ⟨b1, eb1, lb1⟩ := cut_i vs (some 1) none
    obtain ⟨a2, ea2, la2⟩ := cut_i us none (some (-1))
    obtain ⟨b2, eb2, lb2⟩ := cut_i vs none (some (-1))
    obtain ⟨a3, ea3, la3⟩ := cut_l us
    obtain ⟨b3, eb3, lb3⟩ := cut_l vs
    refine ⟨fun σ' H' => ∃ (q6 : Addr) (xs : List V), σ' = [some (.ref a), some (.int n), some (.int p), some (.int w), some (.ref l4), some (.ref l5), some (.ref q6), none, none] ∧ Same H2 H' ∧ H' q6 = some (.lst xs) ∧ xs.length ≤ 6 ∧ ∀ x ∈ xs, ITup H' x, ?_, ?_⟩
    · refine ⟨_, rfl, l4, _, rfl, .inl ⟨SqL.of e4, fun c1 mm1 => ?_⟩⟩
      have uu1 := Same.up (o := .tup (us.map V.int)) mm1
      have f_c1 : upd H2 c1 (.tup (us.map V.int)) c1 = some (.tup (us.map V.int)) := upd_same
      generalize upd H2 c1 (.tup (us.map V.int)) = L1 at uu1 f_c1 ⊢
      have e4 := uu1 _ _ e4
      have e5 := uu1 _ _ e5
      refine ⟨_, rfl, l5, _, rfl, .inl ⟨SqL.of e5, fun c2 mm2 => ?_⟩⟩
      have uu2 := Same.up (o := .tup (vs.map V.int)) mm2
      have f_c2 : upd L1 c2 (.tup (vs.map V.int)) c2 = some (.tup (vs.map V.int)) := upd_same
      generalize upd L1 c2 (.tup (vs.map V.int)) = L2 at uu2 f_c2 ⊢
      have e4 := uu2 _ _ e4
      have e5 := uu2 _ _ e5
      have f_c1 := uu2 _ _ f_c1
      refine ⟨_, rfl, _, rfl, l4, _, rfl, SqL.of e4, fun c3 mm3 => ?_⟩
      have uu3 := Same.up (o := .lst (cutV (us.map V.int) (some 1) none)) mm3
      have f_c3 : upd L2 c3 (.lst (cutV (us.map V.int) (some 1) none)) c3 = some (.lst (cutV (us.map V.int) (some 1) none)) := upd_same
      generalize upd L2 c3 (.lst (cutV (us.map V.int) (some 1) none)) = L3 at uu3 f_c3 ⊢
      have e4 := uu3 _ _ e4
      have e5 := uu3 _ _ e5
      have f_c1 := uu3 _ _ f_c1
      have f_c2 := uu3 _ _ f_c2
      refine ⟨c3, _, rfl, .inl ⟨SqL.of f_c3, fun c4 mm4 => ?_⟩⟩
      have uu4 := Same.up (o := .tup (cutV (us.map V.int) (some 1) none)) mm4
      have f_c4 : upd L3 c4 (.tup (cutV (us.map V.int) (some 1) none)) c4 = some (.tup (cutV (us.map V.int) (some 1) none)) := upd_same
      generalize upd L3 c4 (.tup (cutV (us.map V.int) (some 1) none)) = L4 at uu4 f_c4 ⊢
      have e4 := uu4 _ _ e4
      have e5 := uu4 _ _ e5
      have f_c1 := uu4 _ _ f_c1
      have f_c2 := uu4 _ _ f_c2
      have f_c3 := uu4 _ _ f_c3
      refine ⟨_, rfl, _, rfl, l5, _, rfl, SqL.of e5, fun c5 mm5 => ?_⟩
      have uu5 := Same.up (o := .lst (cutV (vs.map V.int) (some 1) none)) mm5
      have f_c5 : upd L4 c5 (.lst (cutV (vs.map V.int) (some 1) none)) c5 = some (.lst (cutV (vs.map V.int) (some 1) none)) := upd_same
      generalize upd L4 c5 (.lst (cutV (vs.map V.int) (some 1) none)) = L5 at uu5 f_c5 ⊢
      have e4 := uu5 _ _ e4
      have e5 := uu5 _ _ e5
      have f_c1 := uu5 _ _ f_c1
      have f_c2 := uu5 _ _ f_c2
      have f_c3 := uu5 _ _ f_c3
      have f_c4 := uu5 _ _ f_c4
      refine ⟨c5, _, rfl, .inl ⟨SqL.of f_c5, fun c6 mm6 => ?_⟩⟩
      have uu6 := Same.up (o := .tup (cutV (vs.map V.int) (some 1) none)) mm6
      have f_c6 : upd L5 c6 (.tup (cutV (vs.map V.int) (some 1) none)) c6 = some (.tup (cutV (vs.map V.int) (some 1) none)) := upd_same
      generalize upd L5 c6 (.tup (cutV (vs.map V.int) (some 1) none)) = L6 at uu6 f_c6 ⊢
      have e4 := uu6 _ _ e4
      have e5 := uu6 _ _ e5
      have f_c1 := uu6 _ _ f_c1
      have f_c2 := uu6 _ _ f_c2
      have f_c3 := uu6 _ _ f_c3
      have f_c4 := uu6 _ _ f_c4
      have f_c5 := uu6 _ _ f_c5
      refine ⟨_, rfl, _, rfl, _, rfl, l4, _, rfl, SqL.of e4, fun c7 mm7 => ?_⟩
      have uu7 := Same.up (o := .lst (cutV (us.map V.int) none (some (-1)))) mm7
      have f_c7 : upd L6 c7 (.lst (cutV (us.map V.int) none (some (-1)))) c7 = some (.lst (cutV (us.map V.int) none (some (-1)))) := upd_same
      generalize upd L6 c7 (.lst (cutV (us.map V.int) none (some (-1)))) = L7 at uu7 f_c7 ⊢
      have e4 := uu7 _ _ e4
      have e5 := uu7 _ _ e5
      have f_c1 := uu7 _ _ f_c1
      have f_c2 := uu7 _ _ f_c2
      have f_c3 := uu7 _ _ f_c3
      have f_c4 := uu7 _ _ f_c4
      have f_c5 := uu7 _ _ f_c5
      have f_c6 := uu7 _ _ f_c6
      refine ⟨c7, _, rfl, .inl ⟨SqL.of f_c7, fun c8 mm8 => ?_⟩⟩
      have uu8 := Same.up (o := .tup (cutV (us.map V.int) none (some (-1)))) mm8
      have f_c8 : upd L7 c8 (.tup (cutV (us.map V.int) none (some (-1)))) c8 = some (.tup (cutV (us.map V.int) none (some (-1)))) := upd_same
      generalize upd L7 c8 (.tup (cutV (us.map V.int) none (some (-1)))) = L8 at uu8 f_c8 ⊢
      have e4 := uu8 _ _ e4
      have e5 := uu8 _ _ e5
      have f_c1 := uu8 _ _ f_c1
      have f_c2 := uu8 _ _ f_c2
      have f_c3 := uu8 _ _ f_c3
      have f_c4 := uu8 _ _ f_c4
      have f_c5 := uu8 _ _ f_c5
      have f_c6 := uu8 _ _ f_c6
      have f_c7 := uu8 _ _ f_c7
      refine ⟨_, rfl, _, rfl, _, rfl, l5, _, rfl, SqL.of e5, fun c9 mm9 => ?_⟩
      have uu9 := Same.up (o := .lst (cutV (vs.map V.int) none (some (-1)))) mm9
      have f_c9 : upd L8 c9 (.lst (cutV (vs.map V.int) none (some (-1)))) c9 = some (.lst (cutV (vs.map V.int) none (some (-1)))) := upd_same
      generalize upd L8 c9 (.lst (cutV (vs.map V.int) none (some (-1)))) = L9 at uu9 f_c9 ⊢
      have e4 := uu9 _ _ e4
      have e5 := uu9 _ _ e5
      have f_c1 := uu9 _ _ f_c1
      have f_c2 := uu9 _ _ f_c2
      have f_c3 := uu9 _ _ f_c3
      have f_c4 := uu9 _ _ f_c4
      have f_c5 := uu9 _ _ f_c5
      have f_c6 := uu9 _ _ f_c6
      have f_c7 := uu9 _ _ f_c7
      have f_c8 := uu9 _ _ f_c8
      refine ⟨c9, _, rfl, .inl ⟨SqL.of f_c9, fun c10 mm10 => ?_⟩⟩
      have uu10 := Same.up (o := .tup (cutV (vs.map V.int) none (some (-1)))) mm10
      have f_c10 : upd L9 c10 (.tup (cutV (vs.map V.int) none (some (-1)))) c10 = some (.tup (cutV (vs.map V.int) none (some (-1)))) := upd_same
      generalize upd L9 c10 (.tup (cutV (vs.map V.int) none (some (-1)))) = L10 at uu10 f_c10 ⊢
      have e4 := uu10 _ _ e4
      have e5 := uu10 _ _ e5
      have f_c1 := uu10 _ _ f_c1
      have f_c2 := uu10 _ _ f_c2
      have f_c3 := uu10 _ _ f_c3
      have f_c4 := uu10 _ _ f_c4
      have f_c5 := uu10 _ _ f_c5
      have f_c6 := uu10 _ _ f_c6
      have f_c7 := uu10 _ _ f_c7
      have f_c8 := uu10 _ _ f_c8
      have f_c9 := uu10 _ _ f_c9
      refine ⟨by show 6 ≤ sizeLine; decide, fun q6 mm11 => ?_⟩
      have uu11 := Same.up (o := .lst ([V.ref c1, V.ref c2, V.ref c4, V.ref c6, V.ref c8, V.ref c10])) mm11
      have f_q6 : upd L10 q6 (.lst ([V.ref c1, V.ref c2, V.ref c4, V.ref c6, V.ref c8, V.ref c10])) q6 = some (.lst ([V.ref c1, V.ref c2, V.ref c4, V.ref c6, V.ref c8, V.ref c10])) := upd_same
      generalize upd L10 q6 (.lst ([V.ref c1, V.ref c2, V.ref c4, V.ref c6, V.ref c8, V.ref c10])) = L11 at uu11 f_q6 ⊢
      have e4 := uu11 _ _ e4
      have e5 := uu11 _ _ e5
      have f_c1 := uu11 _ _ f_c1
      have f_c2 := uu11 _ _ f_c2
      have f_c3 := uu11 _ _ f_c3
      have f_c4 := uu11 _ _ f_c4
      have f_c5 := uu11 _ _ f_c5
      have f_c6 := uu11 _ _ f_c6
      have f_c7 := uu11 _ _ f_c7
      have f_c8 := uu11 _ _ f_c8
      have f_c9 := uu11 _ _ f_c9
      have f_c10 := uu11 _ _ f_c10
      refine ⟨q6, _, rfl, uu1.trans (uu2.trans (uu3.trans (uu4.trans (uu5.trans (uu6.trans (uu7.trans (uu8.trans (uu9.trans (uu10.trans (uu11)))))))))), f_q6, by show 6 ≤ 6; decide, fun x hx => ?_⟩
      simp only [List.mem_cons, List.not_mem_nil, or_false] at hx
      rcases hx with rfl | rfl | rfl | rfl | rfl | rfl
      · exact tup f_c1 rfl (by omega)
      · exact tup f_c2 rfl (by omega)
      · exact tup f_c4 ea1 (by omega)
      · exact tup f_c6 eb1 (by omega)
      · exact tup f_c8 ea2 (by omega)
      · exact tup f_c10 eb2 (by omega)
    rintro σ' H3 ⟨q6, xs, rfl, s3, e6, l6, r6⟩
    have e4 := s3 _ _ e4
    have e5 := s3 _ _ e5
    refine ⟨fun σ' H' => ∃ (q6 : Addr) (xs : List V), σ' = [some (.ref a), some (.int n), some (.int p), some (.int w), some (.ref l4), some (.ref l5), some (.ref q6), none, none] ∧ Same H3 H' ∧ H' q6 = some (.lst xs) ∧ xs.length ≤ 11 ∧ ∀ x ∈ xs, ITup H' x, ?_, ?_⟩
    · refine ⟨_, rfl, _, rfl, _, rfl, by show 1 ≤ sizeLine; decide, fun c1 mm21 => ?_⟩
      have uu21 := Same.up (o := .lst ([V.int p])) mm21
      have f_c1 : upd H3 c1 (.lst ([V.int p])) c1 = some (.lst ([V.int p])) := upd_same
      generalize upd H3 c1 (.lst ([V.int p])) = L21 at uu21 f_c1 ⊢
      have e4 := uu21 _ _ e4
      have e5 := uu21 _ _ e5
      have e6 := uu21 _ _ e6
      refine ⟨l4, c1, _, _, rfl, rfl, e4, f_c1, by rw [List.length_map, List.length_singleton, sizeLine_eq]; omega, fun c2 mm22 => ?_⟩
      have uu22 := Same.up (o := .lst (us.map V.int ++ [V.int p])) mm22
      have f_c2 : upd L21 c2 (.lst (us.map V.int ++ [V.int p])) c2 = some (.lst (us.map V.int ++ [V.int p])) := upd_same
      generalize upd L21 c2 (.lst (us.map V.int ++ [V.int p])) = L22 at uu22 f_c2 ⊢
      have e4 := uu22 _ _ e4
      have e5 := uu22 _ _ e5
      have e6 := uu22 _ _ e6
      have f_c1 := uu22 _ _ f_c1
      refine ⟨c2, _, rfl, .inl ⟨SqL.of f_c2, fun c3 mm23 => ?_⟩⟩
      have uu23 := Same.up (o := .tup (us.map V.int ++ [V.int p])) mm23
      have f_c3 : upd L22 c3 (.tup (us.map V.int ++ [V.int p])) c3 = some (.tup (us.map V.int ++ [V.int p])) := upd_same
      generalize upd L22 c3 (.tup (us.map V.int ++ [V.int p])) = L23 at uu23 f_c3 ⊢
      have e4 := uu23 _ _ e4
      have e5 := uu23 _ _ e5
      have e6 := uu23 _ _ e6
      have f_c1 := uu23 _ _ f_c1
      have f_c2 := uu23 _ _ f_c2
      refine ⟨_, rfl, by show 1 ≤ sizeLine; decide, fun c4 mm24 => ?_⟩
      have uu24 := Same.up (o := .lst ([V.int p])) mm24
      have f_c4 : upd L23 c4 (.lst ([V.int p])) c4 = some (.lst ([V.int p])) := upd_same
      generalize upd L23 c4 (.lst ([V.int p])) = L24 at uu24 f_c4 ⊢
      have e4 := uu24 _ _ e4
      have e5 := uu24 _ _ e5
      have e6 := uu24 _ _ e6
      have f_c1 := uu24 _ _ f_c1
      have f_c2 := uu24 _ _ f_c2
      have f_c3 := uu24 _ _ f_c3
      refine ⟨_, rfl, c4, l5, _, _, rfl, rfl, f_c4, e5, by rw [List.length_map, List.length_singleton, sizeLine_eq]; omega, fun c5 mm25 => ?_⟩
      have uu25 := Same.up (o := .lst ([V.int p] ++ vs.map V.int)) mm25
      have f_c5 : upd L24 c5 (.lst ([V.int p] ++ vs.map V.int)) c5 = some (.lst ([V.int p] ++ vs.map V.int)) := upd_same
      generalize upd L24 c5 (.lst ([V.int p] ++ vs.map V.int)) = L25 at uu25 f_c5 ⊢
      have e4 := uu25 _ _ e4
      have e5 := uu25 _ _ e5
      have e6 := uu25 _ _ e6
      have f_c1 := uu25 _ _ f_c1
      have f_c2 := uu25 _ _ f_c2
      have f_c3 := uu25 _ _ f_c3
      have f_c4 := uu25 _ _ f_c4
      refine ⟨c5, _, rfl, .inl ⟨SqL.of f_c5, fun c6 mm26 => ?_⟩⟩
      have uu26 := Same.up (o := .tup ([V.int p] ++ vs.map V.int)) mm26
      have f_c6 : upd L25 c6 (.tup ([V.int p] ++ vs.map V.int)) c6 = some (.tup ([V.int p] ++ vs.map V.int)) := upd_same
      generalize upd L25 c6 (.tup ([V.int p] ++ vs.map V.int)) = L26 at uu26 f_c6 ⊢
      have e4 := uu26 _ _ e4
      have e5 := uu26 _ _ e5
      have e6 := uu26 _ _ e6
      have f_c1 := uu26 _ _ f_c1
      have f_c2 := uu26 _ _ f_c2
      have f_c3 := uu26 _ _ f_c3
      have f_c4 := uu26 _ _ f_c4
      have f_c5 := uu26 _ _ f_c5
      refine ⟨_, rfl, l4, _, rfl, SqL.of e4, fun c7 mm27 => ?_⟩
      have uu27 := Same.up (o := .lst ((us.map V.int).reverse)) mm27
      have f_c7 : upd L26 c7 (.lst ((us.map V.int).reverse)) c7 = some (.lst ((us.map V.int).reverse)) := upd_same
      generalize upd L26 c7 (.lst ((us.map V.int).reverse)) = L27 at uu27 f_c7 ⊢
      have e4 := uu27 _ _ e4
      have e5 := uu27 _ _ e5
      have e6 := uu27 _ _ e6
      have f_c1 := uu27 _ _ f_c1
      have f_c2 := uu27 _ _ f_c2
      have f_c3 := uu27 _ _ f_c3
      have f_c4 := uu27 _ _ f_c4
      have f_c5 := uu27 _ _ f_c5
      have f_c6 := uu27 _ _ f_c6
      refine ⟨c7, _, rfl, .inl ⟨SqL.of f_c7, fun c8 mm28 => ?_⟩⟩
      have uu28 := Same.up (o := .tup ((us.map V.int).reverse)) mm28
      have f_c8 : upd L27 c8 (.tup ((us.map V.int).reverse)) c8 = some (.tup ((us.map V.int).reverse)) := upd_same
      generalize upd L27 c8 (.tup ((us.map V.int).reverse)) = L28 at uu28 f_c8 ⊢
      have e4 := uu28 _ _ e4
      have e5 := uu28 _ _ e5
      have e6 := uu28 _ _ e6
      have f_c1 := uu28 _ _ f_c1
      have f_c2 := uu28 _ _ f_c2
      have f_c3 := uu28 _ _ f_c3
      have f_c4 := uu28 _ _ f_c4
      have f_c5 := uu28 _ _ f_c5
      have f_c6 := uu28 _ _ f_c6
      have f_c7 := uu28 _ _ f_c7
      refine ⟨_, rfl, l5, _, rfl, SqL.of e5, fun c9 mm29 => ?_⟩
      have uu29 := Same.up (o := .lst ((vs.map V.int).reverse)) mm29
      have f_c9 : upd L28 c9 (.lst ((vs.map V.int).reverse)) c9 = some (.lst ((vs.map V.int).reverse)) := upd_same
      generalize upd L28 c9 (.lst ((vs.map V.int).reverse)) = L29 at uu29 f_c9 ⊢
      have e4 := uu29 _ _ e4
      have e5 := uu29 _ _ e5
      have e6 := uu29 _ _ e6
      have f_c1 := uu29 _ _ f_c1
      have f_c2 := uu29 _ _ f_c2
      have f_c3 := uu29 _ _ f_c3
      have f_c4 := uu29 _ _ f_c4
      have f_c5 := uu29 _ _ f_c5
      have f_c6 := uu29 _ _ f_c6
      have f_c7 := uu29 _ _ f_c7
      have f_c8 := uu29 _ _ f_c8
      refine ⟨c9, _, rfl, .inl ⟨SqL.of f_c9, fun c10 mm30 => ?_⟩⟩
      have uu30 := Same.up (o := .tup ((vs.map V.int).reverse)) mm30
      have f_c10 : upd L29 c10 (.tup ((vs.map V.int).reverse)) c10 = some (.tup ((vs.map V.int).reverse)) := upd_same
      generalize upd L29 c10 (.tup ((vs.map V.int).reverse)) = L30 at uu30 f_c10 ⊢
      have e4 := uu30 _ _ e4
      have e5 := uu30 _ _ e5
      have e6 := uu30 _ _ e6
      have f_c1 := uu30 _ _ f_c1
      have f_c2 := uu30 _ _ f_c2
      have f_c3 := uu30 _ _ f_c3
      have f_c4 := uu30 _ _ f_c4
      have f_c5 := uu30 _ _ f_c5
      have f_c6 := uu30 _ _ f_c6
      have f_c7 := uu30 _ _ f_c7
      have f_c8 := uu30 _ _ f_c8
      have f_c9 := uu30 _ _ f_c9
      refine ⟨Nat.zero_le _, fun c11 mm31 => ?_⟩
      have uu31 := Same.up (o := .tup ([])) mm31
      have f_c11 : upd L30 c11 (.tup ([])) c11 = some (.tup ([])) := upd_same
      generalize upd L30 c11 (.tup ([])) = L31 at uu31 f_c11 ⊢
      have e4 := uu31 _ _ e4
      have e5 := uu31 _ _ e5
      have e6 := uu31 _ _ e6
      have f_c1 := uu31 _ _ f_c1
      have f_c2 := uu31 _ _ f_c2
      have f_c3 := uu31 _ _ f_c3
      have f_c4 := uu31 _ _ f_c4
      have f_c5 := uu31 _ _ f_c5
      have f_c6 := uu31 _ _ f_c6
      have f_c7 := uu31 _ _ f_c7
      have f_c8 := uu31 _ _ f_c8
      have f_c9 := uu31 _ _ f_c9
      have f_c10 := uu31 _ _ f_c10
      refine ⟨by show 5 ≤ sizeLine; decide, fun c12 mm32 => ?_⟩
      have uu32 := Same.up (o := .lst ([V.ref c3, V.ref c6, V.ref c8, V.ref c10, V.ref c11])) mm32
      have f_c12 : upd L31 c12 (.lst ([V.ref c3, V.ref c6, V.ref c8, V.ref c10, V.ref c11])) c12 = some (.lst ([V.ref c3, V.ref c6, V.ref c8, V.ref c10, V.ref c11])) := upd_same
      generalize upd L31 c12 (.lst ([V.ref c3, V.ref c6, V.ref c8, V.ref c10, V.ref c11])) = L32 at uu32 f_c12 ⊢
      have e4 := uu32 _ _ e4
      have e5 := uu32 _ _ e5
      have e6 := uu32 _ _ e6
      have f_c1 := uu32 _ _ f_c1
      have f_c2 := uu32 _ _ f_c2
      have f_c3 := uu32 _ _ f_c3
      have f_c4 := uu32 _ _ f_c4
      have f_c5 := uu32 _ _ f_c5
      have f_c6 := uu32 _ _ f_c6
      have f_c7 := uu32 _ _ f_c7
      have f_c8 := uu32 _ _ f_c8
      have f_c9 := uu32 _ _ f_c9
      have f_c10 := uu32 _ _ f_c10
      have f_c11 := uu32 _ _ f_c11
      refine ⟨q6, c12, _, _, rfl, rfl, e6, f_c12, by show xs.length + 5 ≤ sizeLine; rw [sizeLine_eq]; omega, fun q7 mm33 => ?_⟩
      have uu33 := Same.up (o := .lst (xs ++ [V.ref c3, V.ref c6, V.ref c8, V.ref c10, V.ref c11])) mm33
      have f_q7 : upd L32 q7 (.lst (xs ++ [V.ref c3, V.ref c6, V.ref c8, V.ref c10, V.ref c11])) q7 = some (.lst (xs ++ [V.ref c3, V.ref c6, V.ref c8, V.ref c10, V.ref c11])) := upd_same
      generalize upd L32 q7 (.lst (xs ++ [V.ref c3, V.ref c6, V.ref c8, V.ref c10, V.ref c11])) = L33 at uu33 f_q7 ⊢
      have e4 := uu33 _ _ e4
      have e5 := uu33 _ _ e5
      have e6 := uu33 _ _ e6
      have f_c1 := uu33 _ _ f_c1
      have f_c2 := uu33 _ _ f_c2
      have f_c3 := uu33 _ _ f_c3
      have f_c4 := uu33 _ _ f_c4
      have f_c5 := uu33 _ _ f_c5
      have f_c6 := uu33 _ _ f_c6
      have f_c7 := uu33 _ _ f_c7
      have f_c8 := uu33 _ _ f_c8
      have f_c9 := uu33 _ _ f_c9
      have f_c10 := uu33 _ _ f_c10
      have f_c11 := uu33 _ _ f_c11
      have f_c12 := uu33 _ _ f_c12
      have sF := uu21.trans (uu22.trans (uu23.trans (uu24.trans (uu25.trans (uu26.trans (uu27.trans (uu28.trans (uu29.trans (uu30.trans (uu31.trans (uu32.trans (uu33))))))))))))
      refine ⟨q7, _, rfl, sF, f_q7, by show (xs ++ [V.ref c3, V.ref c6, V.ref c8, V.ref c10, V.ref c11]).length ≤ 11; rw [List.length_append]; show xs.length + 5 ≤ 11; omega, fun x hx => ?_⟩
      rcases List.mem_append.mp hx with hx | hx
      · exact (r6 x hx).same sF
      simp only [List.mem_cons, List.not_mem_nil, or_false] at hx
      rcases hx with rfl | rfl | rfl | rfl | rfl
      · exact tup (ms := us ++ [(p : Int)]) f_c3 (by rw [List.map_append]; rfl) (by rw [List.length_append, List.length_singleton]; omega)
      · exact tup (ms := (p : Int) :: vs) f_c6 rfl (by rw [List.length_cons]; omega)
      · exact tup (ms := us.reverse) f_c8 (rev_i _) (by rw [List.length_reverse]; omega)
      · exact tup (ms := vs.reverse) f_c10 (rev_i _) (by rw [List.length_reverse]; omega)
      · exact tup (ms := []) f_c11 rfl (by decide)
    rintro σ' H4 ⟨q7, xs, rfl, s4, e7, l7, r7⟩
    have e4 := s4 _ _ e4
    have e5 := s4 _ _ e5
    have hcat : ∀ (us ms : List Int) (zs : List V), zs = ms.map V.int → us.map V.int ++ zs = (us ++ ms).map V.int := fun us ms zs e => by rw [e, List.map_append]
    have hcl : ∀ {us ms : List Int} {zs : List V}, us.length ≤ 9 → zs = ms.map V.int → ms.length ≤ 1 → (us.map V.int).length + zs.length ≤ 12 := fun {us ms zs} l1 e l2 => by rw [e, List.length_map, List.length_map]; omega
    have hA := hcl l4l ea3 la3
    have hB := hcl l5l eb3 lb3
    refine ⟨fun σ' H' => ∃ (q6 : Addr) (xs : List V), σ' = [some (.ref a), some (.int n), some (.int p), some (.int w), some (.ref l4), some (.ref l5), some (.ref q6), none, none] ∧ Same H4 H' ∧ H' q6 = some (.lst xs) ∧ xs.length ≤ 16 ∧ ∀ x ∈ xs, ITup H' x, ?_, ?_⟩
    · refine ⟨_, rfl, _, rfl, _, rfl, _, rfl, _, rfl, l4, _, rfl, SqL.of e4, fun c1 mm41 => ?_⟩
      have uu41 := Same.up (o := .lst (cutV (us.map V.int) (some (-1)) none)) mm41
      have f_c1 : upd H4 c1 (.lst (cutV (us.map V.int) (some (-1)) none)) c1 = some (.lst (cutV (us.map V.int) (some (-1)) none)) := upd_same
      generalize upd H4 c1 (.lst (cutV (us.map V.int) (some (-1)) none)) = L41 at uu41 f_c1 ⊢
      have e4 := uu41 _ _ e4
      have e5 := uu41 _ _ e5
      have e7 := uu41 _ _ e7
      refine ⟨l4, c1, _, _, rfl, rfl, e4, f_c1, by rw [sizeLine_eq]; omega, fun c2 mm42 => ?_⟩
      have uu42 := Same.up (o := .lst (us.map V.int ++ cutV (us.map V.int) (some (-1)) none)) mm42
      have f_c2 : upd L41 c2 (.lst (us.map V.int ++ cutV (us.map V.int) (some (-1)) none)) c2 = some (.lst (us.map V.int ++ cutV (us.map V.int) (some (-1)) none)) := upd_same
      generalize upd L41 c2 (.lst (us.map V.int ++ cutV (us.map V.int) (some (-1)) none)) = L42 at uu42 f_c2 ⊢
      have e4 := uu42 _ _ e4
      have e5 := uu42 _ _ e5
      have e7 := uu42 _ _ e7
      have f_c1 := uu42 _ _ f_c1
      refine ⟨c2, _, rfl, .inl ⟨SqL.of f_c2, fun c3 mm43 => ?_⟩⟩
      have uu43 := Same.up (o := .tup (us.map V.int ++ cutV (us.map V.int) (some (-1)) none)) mm43
      have f_c3 : upd L42 c3 (.tup (us.map V.int ++ cutV (us.map V.int) (some (-1)) none)) c3 = some (.tup (us.map V.int ++ cutV (us.map V.int) (some (-1)) none)) := upd_same
      generalize upd L42 c3 (.tup (us.map V.int ++ cutV (us.map V.int) (some (-1)) none)) = L43 at uu43 f_c3 ⊢
      have e4 := uu43 _ _ e4
      have e5 := uu43 _ _ e5
      have e7 := uu43 _ _ e7
      have f_c1 := uu43 _ _ f_c1
      have f_c2 := uu43 _ _ f_c2
      refine ⟨_, rfl, _, rfl, _, rfl, _, rfl, l5, _, rfl, SqL.of e5, fun c4 mm44 => ?_⟩
      have uu44 := Same.up (o := .lst (cutV (vs.map V.int) (some (-1)) none)) mm44
      have f_c4 : upd L43 c4 (.lst (cutV (vs.map V.int) (some (-1)) none)) c4 = some (.lst (cutV (vs.map V.int) (some (-1)) none)) := upd_same
      generalize upd L43 c4 (.lst (cutV (vs.map V.int) (some (-1)) none)) = L44 at uu44 f_c4 ⊢
      have e4 := uu44 _ _ e4
      have e5 := uu44 _ _ e5
      have e7 := uu44 _ _ e7
      have f_c1 := uu44 _ _ f_c1
      have f_c2 := uu44 _ _ f_c2
      have f_c3 := uu44 _ _ f_c3
      refine ⟨l5, c4, _, _, rfl, rfl, e5, f_c4, by rw [sizeLine_eq]; omega, fun c5 mm45 => ?_⟩
      have uu45 := Same.up (o := .lst (vs.map V.int ++ cutV (vs.map V.int) (some (-1)) none)) mm45
      have f_c5 : upd L44 c5 (.lst (vs.map V.int ++ cutV (vs.map V.int) (some (-1)) none)) c5 = some (.lst (vs.map V.int ++ cutV (vs.map V.int) (some (-1)) none)) := upd_same
      generalize upd L44 c5 (.lst (vs.map V.int ++ cutV (vs.map V.int) (some (-1)) none)) = L45 at uu45 f_c5 ⊢
      have e4 := uu45 _ _ e4
      have e5 := uu45 _ _ e5
      have e7 := uu45 _ _ e7
      have f_c1 := uu45 _ _ f_c1
      have f_c2 := uu45 _ _ f_c2
      have f_c3 := uu45 _ _ f_c3
      have f_c4 := uu45 _ _ f_c4
      refine ⟨c5, _, rfl, .inl ⟨SqL.of f_c5, fun c6 mm46 => ?_⟩⟩
      have uu46 := Same.up (o := .tup (vs.map V.int ++ cutV (vs.map V.int) (some (-1)) none)) mm46
      have f_c6 : upd L45 c6 (.tup (vs.map V.int ++ cutV (vs.map V.int) (some (-1)) none)) c6 = some (.tup (vs.map V.int ++ cutV (vs.map V.int) (some (-1)) none)) := upd_same
      generalize upd L45 c6 (.tup (vs.map V.int ++ cutV (vs.map V.int) (some (-1)) none)) = L46 at uu46 f_c6 ⊢
      have e4 := uu46 _ _ e4
      have e5 := uu46 _ _ e5
      have e7 := uu46 _ _ e7
      have f_c1 := uu46 _ _ f_c1
      have f_c2 := uu46 _ _ f_c2
      have f_c3 := uu46 _ _ f_c3
      have f_c4 := uu46 _ _ f_c4
      have f_c5 := uu46 _ _ f_c5
      refine ⟨_, rfl, _, rfl, RgOk.of_le (by omega) (by omega) (by omega) (by omega), fun c7 mm47 => ?_⟩
      have uu47 := Same.up (o := .tup (rgV 0 (n : Nat))) mm47
      have f_c7 : upd L46 c7 (.tup (rgV 0 (n : Nat))) c7 = some (.tup (rgV 0 (n : Nat))) := upd_same
      generalize upd L46 c7 (.tup (rgV 0 (n : Nat))) = L47 at uu47 f_c7 ⊢
      have e4 := uu47 _ _ e4
      have e5 := uu47 _ _ e5
      have e7 := uu47 _ _ e7
      have f_c1 := uu47 _ _ f_c1
      have f_c2 := uu47 _ _ f_c2
      have f_c3 := uu47 _ _ f_c3
      have f_c4 := uu47 _ _ f_c4
      have f_c5 := uu47 _ _ f_c5
      have f_c6 := uu47 _ _ f_c6
      refine ⟨_, rfl, by show 1 ≤ sizeLine; decide, fun c8 mm48 => ?_⟩
      have uu48 := Same.up (o := .tup ([V.int n])) mm48
      have f_c8 : upd L47 c8 (.tup ([V.int n])) c8 = some (.tup ([V.int n])) := upd_same
      generalize upd L47 c8 (.tup ([V.int n])) = L48 at uu48 f_c8 ⊢
      have e4 := uu48 _ _ e4
      have e5 := uu48 _ _ e5
      have e7 := uu48 _ _ e7
      have f_c1 := uu48 _ _ f_c1
      have f_c2 := uu48 _ _ f_c2
      have f_c3 := uu48 _ _ f_c3
      have f_c4 := uu48 _ _ f_c4
      have f_c5 := uu48 _ _ f_c5
      have f_c6 := uu48 _ _ f_c6
      have f_c7 := uu48 _ _ f_c7
      refine ⟨_, rfl, by show 1 ≤ sizeLine; decide, fun c9 mm49 => ?_⟩
      have uu49 := Same.up (o := .tup ([V.int (-1)])) mm49
      have f_c9 : upd L48 c9 (.tup ([V.int (-1)])) c9 = some (.tup ([V.int (-1)])) := upd_same
      generalize upd L48 c9 (.tup ([V.int (-1)])) = L49 at uu49 f_c9 ⊢
      have e4 := uu49 _ _ e4
      have e5 := uu49 _ _ e5
      have e7 := uu49 _ _ e7
      have f_c1 := uu49 _ _ f_c1
      have f_c2 := uu49 _ _ f_c2
      have f_c3 := uu49 _ _ f_c3
      have f_c4 := uu49 _ _ f_c4
      have f_c5 := uu49 _ _ f_c5
      have f_c6 := uu49 _ _ f_c6
      have f_c7 := uu49 _ _ f_c7
      have f_c8 := uu49 _ _ f_c8
      refine ⟨by show 5 ≤ sizeLine; decide, fun c10 mm50 => ?_⟩
      have uu50 := Same.up (o := .lst ([V.ref c3, V.ref c6, V.ref c7, V.ref c8, V.ref c9])) mm50
      have f_c10 : upd L49 c10 (.lst ([V.ref c3, V.ref c6, V.ref c7, V.ref c8, V.ref c9])) c10 = some (.lst ([V.ref c3, V.ref c6, V.ref c7, V.ref c8, V.ref c9])) := upd_same
      generalize upd L49 c10 (.lst ([V.ref c3, V.ref c6, V.ref c7, V.ref c8, V.ref c9])) = L50 at uu50 f_c10 ⊢
      have e4 := uu50 _ _ e4
      have e5 := uu50 _ _ e5
      have e7 := uu50 _ _ e7
      have f_c1 := uu50 _ _ f_c1
      have f_c2 := uu50 _ _ f_c2
      have f_c3 := uu50 _ _ f_c3
      have f_c4 := uu50 _ _ f_c4
      have f_c5 := uu50 _ _ f_c5
      have f_c6 := uu50 _ _ f_c6
      have f_c7 := uu50 _ _ f_c7
      have f_c8 := uu50 _ _ f_c8
      have f_c9 := uu50 _ _ f_c9
      refine ⟨q7, c10, _, _, rfl, rfl, e7, f_c10, by show xs.length + 5 ≤ sizeLine; rw [sizeLine_eq]; omega, fun q8 mm51 => ?_⟩
      have uu51 := Same.up (o := .lst (xs ++ [V.ref c3, V.ref c6, V.ref c7, V.ref c8, V.ref c9])) mm51
      have f_q8 : upd L50 q8 (.lst (xs ++ [V.ref c3, V.ref c6, V.ref c7, V.ref c8, V.ref c9])) q8 = some (.lst (xs ++ [V.ref c3, V.ref c6, V.ref c7, V.ref c8, V.ref c9])) := upd_same
      generalize upd L50 q8 (.lst (xs ++ [V.ref c3, V.ref c6, V.ref c7, V.ref c8, V.ref c9])) = L51 at uu51 f_q8 ⊢
      have e4 := uu51 _ _ e4
      have e5 := uu51 _ _ e5
      have e7 := uu51 _ _ e7
      have f_c1 := uu51 _ _ f_c1
      have f_c2 := uu51 _ _ f_c2
      have f_c3 := uu51 _ _ f_c3
      have f_c4 := uu51 _ _ f_c4
      have f_c5 := uu51 _ _ f_c5
      have f_c6 := uu51 _ _ f_c6
      have f_c7 := uu51 _ _ f_c7
      have f_c8 := uu51 _ _ f_c8
      have f_c9 := uu51 _ _ f_c9
      have f_c10 := uu51 _ _ f_c10
      have sF := uu41.trans (uu42.trans (uu43.trans (uu44.trans (uu45.trans (uu46.trans (uu47.trans (uu48.trans (uu49.trans (uu50.trans (uu51))))))))))
      refine ⟨q8, _, rfl, sF, f_q8, by show (xs ++ [V.ref c3, V.ref c6, V.ref c7, V.ref c8, V.ref c9]).length ≤ 16; rw [List.length_append]; show xs.length + 5 ≤ 16; omega, fun x hx => ?_⟩
      rcases List.mem_append.mp hx with hx | hx
      · exact (r7 x hx).same sF
      simp only [List.mem_cons, List.not_mem_nil, or_false] at hx
      rcases hx with rfl | rfl | rfl | rfl | rfl
      · exact tup (ms := us ++ a3) f_c3 (hcat _ _ _ ea3) (by rw [List.length_append]; omega)
      · exact tup (ms := vs ++ b3) f_c6 (hcat _ _ _ eb3) (by rw [List.length_append]; omega)
      · exact tup (ms := natB (List.range n)) f_c7 (nv_rg n) (by rw [natB_len, List.length_range]; omega)
      · exact tup (ms := [(n : Int)]) f_c8 rfl (by show 1 ≤ 12; decide)
      · exact tup (ms := [-1]) f_c9 rfl (by decide)
    rintro σ' H5 ⟨q8, xs, rfl, s5, e8, l8, r8⟩
    refine ⟨fun σ' H' => ∃ (q9 : Addr) (ms : List Int), σ' = [some (.ref a), some (.int n), some (.int p), some (.int w), some (.ref l4), some (.ref l5), some (.ref q8), some (.ref q9), none] ∧ Same H5 H' ∧ H' q9 = some (.lst (ms.map V.int)) ∧ ms.length ≤ 9, ?_, ?_⟩
    · refine ⟨_, rfl, _, rfl, by omega, by omega, fun D nD => ?_⟩
      rw [Int.toNat_natCast]
      refine lc_it (walk_range (lo := 0) (n := n)) (fun j H' => ∃ ms : List Int, ms.length ≤ j ∧ Acc H5 D (ms.map V.int) H') ⟨[], Nat.le_refl _, Acc.start nD⟩ (fun _ _ _ _ => trivial) ?_ ?_
      · rintro j y H6 H7 hj ⟨ms, hms, ac⟩ ⟨rfl, ey⟩
        obtain rfl : y = V.int (j : Nat) := by
          rw [ey]
          show V.int (0 + (j : Int)) = _
          rw [Int.zero_add]
        refine ⟨rfl, _, rfl, _, rfl, _, _, rfl, rfl, a, ns, 6 + j, congrArg (fun z => [V.ref a, V.int z]) (by omega), ((s12.trans (s3.trans (s4.trans s5))).trans ac.s).seq ha, h63, by omega, fun H8 r s8 => .inl ⟨_, rfl, _, _, rfl, rfl, by show (0 : Int) < 2; decide, rfl, _, rfl, ?_⟩⟩
        have ac8 := ac.same s8
        by_cases hz : decide (V.int (r % 2) = V.int 0) = true
        · rw [hz]
          refine iteT ⟨_, rfl, _, ac8.a, by rw [List.length_map, sizeLine_eq]; omega, ms ++ [(j : Int)], by rw [List.length_append, List.length_singleton]; omega, ?_⟩
          rw [List.map_append]
          exact ac8.push
        · rw [Bool.eq_false_iff.mpr hz]
          exact iteF ⟨ms, by omega, ac8⟩
      · rintro H6 ⟨ms, hms, ac⟩
        exact ⟨D, ms, rfl, ac.s, ac.a, by omega⟩
    rintro σ' H6 ⟨q9, ms, rfl, s6, e9, l9⟩
    have e8 := s6 _ _ e8
    refine ⟨_, rfl, _, rfl, q9, _, rfl, .inl ⟨SqL.of e9, fun c1 mm61 => ?_⟩⟩
    have uu61 := Same.up (o := .tup (ms.map V.int)) mm61
    have f_c1 : upd H6 c1 (.tup (ms.map V.int)) c1 = some (.tup (ms.map V.int)) := upd_same
    generalize upd H6 c1 (.tup (ms.map V.int)) = L61 at uu61 f_c1 ⊢
    have e8 := uu61 _ _ e8
    have e9 := uu61 _ _ e9
    refine ⟨by show 1 ≤ sizeLine; decide, fun c2 mm62 => ?_⟩
    have uu62 := Same.up (o := .lst ([V.ref c1])) mm62
    have f_c2 : upd L61 c2 (.lst ([V.ref c1])) c2 = some (.lst ([V.ref c1])) := upd_same
    generalize upd L61 c2 (.lst ([V.ref c1])) = L62 at uu62 f_c2 ⊢
    have e8 := uu62 _ _ e8
    have e9 := uu62 _ _ e9
    have f_c1 := uu62 _ _ f_c1
    refine ⟨q8, c2, _, _, rfl, rfl, e8, f_c2, by show xs.length + 1 ≤ sizeLine; rw [sizeLine_eq]; omega, fun c3 mm63 => ?_⟩
    have uu63 := Same.up (o := .lst (xs ++ [V.ref c1])) mm63
    have f_c3 : upd L62 c3 (.lst (xs ++ [V.ref c1])) c3 = some (.lst (xs ++ [V.ref c1])) := upd_same
    generalize upd L62 c3 (.lst (xs ++ [V.ref c1])) = L63 at uu63 f_c3 ⊢
    have e8 := uu63 _ _ e8
    have e9 := uu63 _ _ e9
    have f_c1 := uu63 _ _ f_c1
    have f_c2 := uu63 _ _ f_c2
    have sF := uu61.trans (uu62.trans (uu63))
    refine q _ c3 _ (s12.trans (s3.trans (s4.trans (s5.trans (s6.trans (sF)))))) f_c3 fun x hx => ?_
    rcases List.mem_append.mp hx with hx | hx
    · exact (r8 x hx).same (s6.trans sF)
    · rw [List.mem_singleton.mp hx]
      exact tup f_c1 rfl (by omega)
theorem b_lch (T : Tx K mg A) : L2.Binds K A.d__law_choices ["script", "many", "place", "wide"] [] := T.F__law_choices.binds fun _ _ _ _ _ _ us hl => match us, hl with | [_, _, _, _], _ => rfl

end
end Tw

set_option Elab.async false
set_option linter.all false
set_option maxRecDepth 100000
set_option maxHeartbeats 2000000
namespace Tw
open PySem PySem.Spec PyProof.Rows L2
section
variable {P : Program} {w : World} {K : PySem.W.Frag} {mg : Str → Option Value} {base : Heap} {A : Ad}
/-! equality, what is kept; the law -/
theorem StI.put {C : Addr} {H : Hp} {D p : Addr} {ys : List V} {o : HO} {ns : List Int} (hD : H D = some (.lst ys)) (h : StI C H p ns) : StI C (upd H D o) p ns := by
  obtain ⟨dx, t, a, b⟩ := h
  exact ⟨dx, t, by rw [upd_ne (ne_of a hD (by intro y; cases y))]; exact a, by rw [upd_ne (ne_of b hD (by intro y; cases y))]; exact b⟩
theorem BaI.put {C : Addr} {H : Hp} {D p : Addr} {ys : List V} {o : HO} {x : Str} {ns : List Int} (hD : H D = some (.lst ys)) (h : BaI C H p x ns) : BaI C (upd H D o) p x ns := by
  obtain ⟨dx, t, a, b⟩ := h
  exact ⟨dx, t, by rw [upd_ne (ne_of a hD (by intro y; cases y))]; exact a, by rw [upd_ne (ne_of b hD (by intro y; cases y))]; exact b⟩
theorem catA_i {K : PySem.W.Frag} {G : Hp} {tt u : Addr} {ms : List Int} {x : Int} {Q : VK} (et : G tt = some (.tup (ms.map V.int))) (eu : G u = some (.tup [V.int x])) (hl : ms.length ≤ 12)
    (fin : ∀ (c : Addr) (G2 : Hp), Same G G2 → G2 c = some (.tup ((ms ++ [x]).map V.int)) → Q (.ref c) G2) : rCatA K (.ref tt) (.ref u) G Q := by
  refine ⟨tt, u, _, _, rfl, rfl, SqT.of et, SqT.of eu, Nat.le_of_lt (small1000 (by rw [List.length_map, List.length_singleton]; omega)), fun hn => ?_, fun _ y => (nomatch y), fun hn _ c nc => ?_⟩
  · have e0 : ms = [] := List.map_eq_nil_iff.mp hn
    refine fin u _ (Same.refl _) ?_
    subst e0
    exact eu
  · refine fin c _ (Same.up nc) ?_
    rw [List.map_append]
    exact upd_same
def spLpr : Sp := fun vs H Q _ => ∃ (t b : Addr) (ks ms : List Int), vs = [.ref t, .ref b] ∧ H t = some (.tup (ks.map V.int)) ∧ H b = some (.lst (ms.map V.int)) ∧ ks.length ≤ 12 ∧ ms.length ≤ 12 ∧ ∀ H' : Hp, Q (.bl true) H'
theorem ok_lpr (T : Tx K mg A) : FnOk P w K mg base CX0 4 A.f__law_parts_right A.d__law_parts_right ["row", "places"] spLpr := by
  refine T.F__law_parts_right.ok sc__law_parts_right (fun vs H Q E h => ?_) (fun cdv B outer s H vs Q E hr h => ?_)
  · obtain ⟨t, b, ks, ms, rfl, _⟩ := h
    rfl
  · obtain ⟨t, b, ks, ms, rfl, ht, hb, hk, hm, q⟩ := h
    have nd := sc__law_parts_right.nd
    have hu : (B.deeper (envOfC "_law_parts_right" (defScope s__law_parts_right) s.heap.objs.size A.f__law_parts_right cdv)).units + 64 < cLine := by have := hr.un; omega
    refine ⟨_, PSs.nox (C8.pss_cut (ps_set (i := 2) nd rfl (Or.inl rfl) (pe_lst (pa_cons (pe_callTy call_list_of (by rfl) T.g_list (by decide +kernel) (pa_cons (pv 0) pa_nil)) (pa_cons (pe_callTy call_list_of (by rfl) T.g_list (by decide +kernel) (pa_cons (pv 1) pa_nil)) pa_nil))))
      (C8.pss_cut (ps_set (i := 3) nd rfl (Or.inl rfl) (pe_lst (pa_cons (pe_make T.mkCS (ok_si T) (hr.mono (by decide)) (by rfl) T.mCS (b_si T) .nil pass0 (pa_cons (pe_ix ix_list (pv 2) pe_int (fun _ _ => rfl)) pa_nil)) (pa_cons (pe_make T.mkCB (ok_bi T) (hr.mono (by decide)) (by rfl) T.mCB (b_bi T) .nil pass0 (pa_cons pe_str (pa_cons (pe_ix ix_list (pv 2) pe_int (fun _ _ => rfl)) pa_nil))) pa_nil))))
      (C8.pss_cut (ps_expr (pe_bm PySem.F.plainAttrs_list PySem.F.slot_list_append PySem.F.type_list_append mt_append (pe_ix ix_list (pv 2) pe_int (fun _ _ => rfl)) (pa_cons pe_int pa_nil)))
      (C8.pss_cut (ps_expr (pe_bm PySem.F.plainAttrs_list PySem.F.slot_list_append PySem.F.type_list_append mt_append (pe_ix ix_list (pv 2) pe_int (fun _ _ => rfl)) (pa_cons pe_int pa_nil)))
      (C8.pss_cut (ps_if (PW.pt (pw_or (pt_cmpR (op_neD hu) (pe_fld (pe_ix ix_list (pv 3) pe_int (fun _ _ => rfl)) rfl) (pe_callTy call_tuple_of (by rfl) T.g_tuple (by decide +kernel) (pa_cons (pv 0) pa_nil)) (nomark _)) (pw_or (pt_cmpR (op_neD hu) (pe_fld (pe_ix ix_list (pv 3) pe_int (fun _ _ => rfl)) rfl) (pe_callTy call_tuple_of (by rfl) T.g_tuple (by decide +kernel) (pa_cons (pv 1) pa_nil)) (nomark _)) (pw_or1 (pt_cmpR op_ne (pe_fld (pe_ix ix_list (pv 3) pe_int (fun _ _ => rfl)) rfl) pe_str (nomark _)))))) (pss_one (ps_ret pe_bl)) pss_nil)
      (C8.pss_cut (ps_if (PW.pt (pw_or (pt_not (pt_cmpR (op_eq_own T.eqcS (ok_seq T) (hr.mono (by decide)) (b_seq T) pass0) (pe_ix ix_list (pv 3) pe_int (fun _ _ => rfl)) (pe_make T.mkCS (ok_si T) (hr.mono (by decide)) (by rfl) T.mCS (b_si T) .nil pass0 (pa_cons (pe_callTy call_tuple_of (by rfl) T.g_tuple (by decide +kernel) (pa_cons (pv 0) pa_nil)) pa_nil)) (nomark _))) (pw_or (pt_cmpR (op_eq_own T.eqcS (ok_seq T) (hr.mono (by decide)) (b_seq T) pass0) (pe_ix ix_list (pv 3) pe_int (fun _ _ => rfl)) (pe_make T.mkCS (ok_si T) (hr.mono (by decide)) (by rfl) T.mCS (b_si T) .nil pass0 (pa_cons (pe_op (r := rCatA K) op_catA (pe_callTy call_tuple_of (by rfl) T.g_tuple (by decide +kernel) (pa_cons (pv 0) pa_nil)) (pe_tup (pa_cons pe_int pa_nil))) pa_nil)) (nomark _)) (pw_or1 (pt_cmpR (op_eq_own T.eqcS (ok_seq T) (hr.mono (by decide)) (b_seq T) pass0) (pe_ix ix_list (pv 3) pe_int (fun _ _ => rfl)) (pe_callTy call_tuple_of (by rfl) T.g_tuple (by decide +kernel) (pa_cons (pv 0) pa_nil)) (nomark _)))))) (pss_one (ps_ret pe_bl)) pss_nil)
      (C8.pss_cut (ps_if (PW.pt (pw_or (pt_not (pt_cmpR (op_eq_own T.eqcB (ok_beq T) (hr.mono (by decide)) (b_beq T) pass0) (pe_ix ix_list (pv 3) pe_int (fun _ _ => rfl)) (pe_make T.mkCB (ok_bi T) (hr.mono (by decide)) (by rfl) T.mCB (b_bi T) .nil pass0 (pa_cons pe_str (pa_cons (pe_callTy call_tuple_of (by rfl) T.g_tuple (by decide +kernel) (pa_cons (pv 1) pa_nil)) pa_nil))) (nomark _))) (pw_or1 (pt_cmpR (op_eq_own T.eqcB (ok_beq T) (hr.mono (by decide)) (b_beq T) pass0) (pe_ix ix_list (pv 3) pe_int (fun _ _ => rfl)) (pe_make T.mkCB (ok_bi T) (hr.mono (by decide)) (by rfl) T.mCB (b_bi T) .nil pass0 (pa_cons pe_str (pa_cons (pe_callTy call_tuple_of (by rfl) T.g_tuple (by decide +kernel) (pa_cons (pv 1) pa_nil)) pa_nil))) (nomark _))))) (pss_one (ps_ret pe_bl)) pss_nil)
      (pss_one (ps_ret (pe_and (pe_cmpR (op_ne_own T.eqcB (ok_beq T) (hr.mono (by decide)) (b_beq T) pass0) (pe_ix ix_list (pv 3) pe_int (fun _ _ => rfl)) (pe_make T.mkCB (ok_bi T) (hr.mono (by decide)) (by rfl) T.mCB (b_bi T) .nil pass0 (pa_cons pe_str (pa_cons (pe_op (r := rCatA K) op_catA (pe_callTy call_tuple_of (by rfl) T.g_tuple (by decide +kernel) (pa_cons (pv 1) pa_nil)) (pe_tup (pa_cons pe_int pa_nil))) pa_nil))) (nomark _)) (pe_one (pe_cmpR (op_ne_two T.eqcS T.nfS_CB (ok_seq T) (hr.mono (by decide)) (b_seq T) pass0) (pe_ix ix_list (pv 3) pe_int (fun _ _ => rfl)) (pe_ix ix_list (pv 3) pe_int (fun _ _ => rfl)) (nomark _))))))))))))), ?_⟩
    refine ⟨fun σ' H' => ∃ c1 c2 q2 : Addr, σ' = [some (.ref t), some (.ref b), some (.ref q2), none] ∧ Same H H' ∧ H' c1 = some (.lst (ks.map V.int)) ∧ H' c2 = some (.lst (ms.map V.int)) ∧ H' q2 = some (.lst [.ref c1, .ref c2]) ∧ c1 ≠ c2 ∧ c1 ≠ q2 ∧ c2 ≠ q2 ∧ H c1 = none ∧ H c2 = none, ?_, ?_⟩
    · refine ⟨_, rfl, t, _, rfl, .inr (SqT.of ht), fun c1 m1 => ?_⟩
      have u1 := Same.up (o := .lst (ks.map V.int)) m1
      have f1 : upd H c1 (.lst (ks.map V.int)) c1 = some (.lst (ks.map V.int)) := upd_same
      generalize upd H c1 (.lst (ks.map V.int)) = G1 at u1 f1 ⊢
      refine ⟨_, rfl, b, _, rfl, .inl (SqL.of (u1 _ _ hb)), fun c2 m2 => ?_⟩
      have u2 := Same.up (o := .lst (ms.map V.int)) m2
      have f2 : upd G1 c2 (.lst (ms.map V.int)) c2 = some (.lst (ms.map V.int)) := upd_same
      have n12 : c1 ≠ c2 := fun z => by rw [← z, f1] at m2; cases m2
      have g1 := u2 _ _ f1
      generalize upd G1 c2 (.lst (ms.map V.int)) = G2 at u2 f2 g1 ⊢
      refine ⟨by show 2 ≤ sizeLine; decide, fun q2 m3 => ?_⟩
      have u3 := Same.up (o := .lst [V.ref c1, V.ref c2]) m3
      exact ⟨c1, c2, q2, rfl, u1.trans (u2.trans u3), u3 _ _ g1, u3 _ _ f2, upd_same, n12, (fun z => by rw [← z, g1] at m3; cases m3), (fun z => by rw [← z, f2] at m3; cases m3), m1, u1.free m2⟩
    rintro σ' H1 ⟨c1, c2, q2, rfl, s1, f1, f2, e2, n12, n1q, n2q, v1, v2⟩
    refine ⟨fun σ' H' => ∃ o1 o2 q3 : Addr, σ' = [some (.ref t), some (.ref b), some (.ref q2), some (.ref q3)] ∧ Same H1 H' ∧ StI A.CS H' o1 ks ∧ BaI A.CB H' o2 "ahead" ms ∧ H' q3 = some (.lst [.ref o1, .ref o2]) ∧ c1 ≠ q3 ∧ c2 ≠ q3, ?_, ?_⟩
    · refine ⟨_, rfl, q2, _, _, _, rfl, rfl, SqL.of e2, atI_nat (j := 0) rfl, fun o1 d1 no1 nd1 nod1 => ⟨o1, d1, c1, ks, rfl, upd_same, .inl (by rw [upd_ne (ne_of_none f1 no1), upd_ne (ne_of_none f1 nd1)]; exact f1), fun H2 k2 b2 => ⟨rfl, ?_⟩⟩⟩
      have s2 := new_same no1 nd1 k2
      have e2' := s2 _ _ e2
      have f2' := s2 _ _ f2
      refine ⟨_, rfl, q2, _, _, _, rfl, rfl, SqL.of e2', atI_nat (j := 1) rfl, fun o2 d2 no2 nd2 nod2 => ⟨o2, d2, c2, _, ms, rfl, upd_same, .inl (by rw [upd_ne (ne_of_none f2' no2), upd_ne (ne_of_none f2' nd2)]; exact f2'), fun H3 k3 b3 => ⟨rfl, ?_⟩⟩⟩
      have s3 := new_same no2 nd2 k3
      refine ⟨by show 2 ≤ sizeLine; decide, fun q3 m3 => ?_⟩
      have s4 := Same.up (o := .lst [V.ref o1, V.ref o2]) m3
      exact ⟨o1, o2, q3, rfl, s2.trans (s3.trans s4), (b2.same s3).same s4, b3.same s4, upd_same, (fun z => by rw [← z, s3 _ _ (s2 _ _ f1)] at m3; cases m3), (fun z => by rw [← z, s3 _ _ (s2 _ _ f2)] at m3; cases m3)⟩
    rintro σ' H2 ⟨o1, o2, q3, rfl, s2, b1, b2, e3, n1r, n2r⟩
    have f1 := s2 _ _ f1
    have f2 := s2 _ _ f2
    have e2 := s2 _ _ e2
    have s02 := s1.trans s2
    have keep : ∀ {G : Hp} {c : Addr} {o : HO}, H c = none → Same H G → Same H (upd G c o) := fun nc s b' o' e => by
      rw [upd_ne (ne_of_none e nc)]
      exact s _ _ e
    refine ⟨fun σ' H' => σ' = [some (.ref t), some (.ref b), some (.ref q2), some (.ref q3)] ∧ Same H H' ∧ StI A.CS H' o1 ks ∧ BaI A.CB H' o2 "ahead" ms ∧ H' q3 = some (.lst [.ref o1, .ref o2]) ∧ H' q2 = some (.lst [.ref c1, .ref c2]) ∧ H' c2 = some (.lst (ms.map V.int)), ?_, ?_⟩
    · refine ⟨_, rfl, q2, _, _, _, rfl, rfl, SqL.of e2, atI_nat (j := 0) rfl, .inl ⟨rfl, _, SqL.of f1⟩, c1, _, _, rfl, rfl, f1, by rw [List.length_map, sizeLine_eq]; omega, rfl, keep v1 s02, b1.put f1, b2.put f1, ?_, ?_, ?_⟩
      · rw [upd_ne (Ne.symm n1r)]; exact e3
      · rw [upd_ne (Ne.symm n1q)]; exact e2
      · rw [upd_ne (Ne.symm n12)]; exact f2
    rintro σ' H3 ⟨rfl, s3, b1, b2, e3, e2, f2⟩
    refine ⟨fun σ' H' => σ' = [some (.ref t), some (.ref b), some (.ref q2), some (.ref q3)] ∧ Same H H' ∧ StI A.CS H' o1 ks ∧ BaI A.CB H' o2 "ahead" ms ∧ H' q3 = some (.lst [.ref o1, .ref o2]), ?_, ?_⟩
    · refine ⟨_, rfl, q2, _, _, _, rfl, rfl, SqL.of e2, atI_nat (j := 1) rfl, .inl ⟨rfl, _, SqL.of f2⟩, c2, _, _, rfl, rfl, f2, by rw [List.length_map, sizeLine_eq]; omega, rfl, keep v2 s3, b1.put f2, b2.put f2, ?_⟩
      rw [upd_ne (Ne.symm n2r)]; exact e3
    rintro σ' H4 ⟨rfl, s4, b1, b2, e3⟩
    have ht4 := s4 _ _ ht
    have hb4 := s4 _ _ hb
    refine ⟨fun σ' H' => σ' = [some (.ref t), some (.ref b), some (.ref q2), some (.ref q3)] ∧ Same H4 H', ?_, ?_⟩
    · obtain ⟨dx, t1, g1, g2⟩ := b1
      obtain ⟨dy, t2, g3, g4⟩ := b2
      refine ⟨_, rfl, q3, _, _, _, rfl, rfl, SqL.of e3, atI_nat (j := 0) rfl, o1, A.CS, dx, _, _, rfl, g1, T.cTS, T.sRow, sfd_row _, _, rfl, t, _, rfl, .inr ⟨SqT.of ht4, ?_⟩⟩
      refine ⟨rowD ks, rowD ks, ints_tup K g2, ints_tup K ht4, ints_shT _, ints_shT _, _, rfl, ?_⟩
      rw [rowD_eqv, decide_eq_true rfl]
      refine iteF ⟨_, rfl, q3, _, _, _, rfl, rfl, SqL.of e3, atI_nat (j := 1) rfl, o2, A.CB, dy, _, _, rfl, g3, T.cTB, T.bPl, bfd_pl _ _, _, rfl, b, _, rfl, .inl ⟨SqL.of hb4, fun u nu => ?_⟩⟩
      have su := Same.up (o := .tup (ms.map V.int)) nu
      refine ⟨rowD ms, rowD ms, ints_tup K (su _ _ g4), ints_tup K upd_same, ints_shT _, ints_shT _, _, rfl, ?_⟩
      rw [rowD_eqv, decide_eq_true rfl]
      refine iteF ⟨_, rfl, q3, _, _, _, rfl, rfl, SqL.of (su _ _ e3), atI_nat (j := 1) rfl, o2, A.CB, dy, _, _, rfl, su _ _ g3, T.cTB, T.bWord, bfd_word _ _, rfl, _, rfl, ?_⟩
      rw [decide_eq_true rfl]
      exact iteF ⟨rfl, su⟩
    rintro σ' H5 ⟨rfl, s5⟩
    have b1 := b1.same s5
    have b2 := b2.same s5
    have e3 := s5 _ _ e3
    have ht5 := s5 _ _ ht4
    have hb5 := s5 _ _ hb4
    refine ⟨fun σ' H' => σ' = [some (.ref t), some (.ref b), some (.ref q2), some (.ref q3)] ∧ Same H5 H', ?_, ?_⟩
    · obtain ⟨dx, t1, g1, g2⟩ := id b1
      refine ⟨_, rfl, q3, _, _, _, rfl, rfl, SqL.of e3, atI_nat (j := 0) rfl, _, rfl, t, _, rfl, .inr ⟨SqT.of ht5, fun y dy ny ndy nyd => ⟨y, dy, t, ks, rfl, upd_same, .inr (by rw [upd_ne (ne_of_none ht5 ny), upd_ne (ne_of_none ht5 ndy)]; exact ht5), fun H6 k6 b6 => ⟨rfl, ?_⟩⟩⟩⟩
      have s6 := new_same ny ndy k6
      obtain ⟨dz, t6, g5, g6⟩ := id b6
      refine ⟨o1, dx, _, rfl, s6 _ _ g1, .ins g5, o1, .ref y, ks, rfl, b1.same s6, .inl ⟨y, ks, rfl, b6, _, rfl, _, rfl, ?_⟩⟩
      rw [if_neg Bool.false_ne_true, decide_eq_true rfl]
      refine iteF ?_
      have ht6 := s6 _ _ ht5
      refine ⟨_, rfl, q3, _, _, _, rfl, rfl, SqL.of (s6 _ _ e3), atI_nat (j := 0) rfl, _, rfl, t, _, rfl, .inr ⟨SqT.of ht6, by show 1 ≤ sizeLine; decide, fun u nu => ?_⟩⟩
      have su := Same.up (o := .tup [V.int 1]) nu
      have s7 := s6.trans su
      refine catA_i (su _ _ ht6) upd_same hk fun c G2 sG ec => ?_
      have s8 := s7.trans sG
      refine fun y2 dy2 ny2 ndy2 nyd2 => ⟨y2, dy2, c, ks ++ [1], rfl, upd_same, .inr (by rw [upd_ne (ne_of_none ec ny2), upd_ne (ne_of_none ec ndy2)]; exact ec), fun H9 k9 b9 => ⟨rfl, ?_⟩⟩
      have s9 := s8.trans (new_same ny2 ndy2 k9)
      obtain ⟨dz2, t9, g7, g8⟩ := id b9
      refine ⟨o1, dx, _, rfl, s9 _ _ g1, .ins g7, o1, .ref y2, ks, rfl, b1.same s9, .inl ⟨y2, ks ++ [1], rfl, b9, _, rfl, _, rfl, ?_⟩⟩
      rw [if_neg Bool.false_ne_true, decide_eq_false (show ¬ ks = ks ++ [1] from fun z => by have := congrArg List.length z; rw [List.length_append, List.length_singleton] at this; omega)]
      refine iteF ?_
      have ht9 := s9 _ _ ht5
      refine ⟨_, rfl, q3, _, _, _, rfl, rfl, SqL.of (s9 _ _ e3), atI_nat (j := 0) rfl, _, rfl, t, _, rfl, .inr ⟨SqT.of ht9, ?_⟩⟩
      refine ⟨o1, dx, _, rfl, s9 _ _ g1, .tup ht9, o1, .ref t, ks, rfl, b1.same s9, .inr (.inr ⟨t, _, rfl, ht9, _, rfl, _, rfl, ?_⟩)⟩
      rw [if_neg Bool.false_ne_true]
      exact iteF ⟨rfl, s9⟩
    rintro σ' H6 ⟨rfl, s6⟩
    have b1 := b1.same s6
    have b2 := b2.same s6
    have e3 := s6 _ _ e3
    have hb6 := s6 _ _ hb5
    refine ⟨fun σ' H' => σ' = [some (.ref t), some (.ref b), some (.ref q2), some (.ref q3)] ∧ Same H6 H', ?_, ?_⟩
    · obtain ⟨dx, t1, g1, g2⟩ := id b2
      refine ⟨_, rfl, q3, _, _, _, rfl, rfl, SqL.of e3, atI_nat (j := 1) rfl, _, rfl, b, _, rfl, .inl ⟨SqL.of hb6, fun u nu => ?_⟩⟩
      have su := Same.up (o := .tup (ms.map V.int)) nu
      have eu : upd H6 u (.tup (ms.map V.int)) u = some (.tup (ms.map V.int)) := upd_same
      generalize upd H6 u (.tup (ms.map V.int)) = G1 at su eu ⊢
      refine fun y dy ny ndy nyd => ⟨y, dy, u, _, ms, rfl, upd_same, .inr (by rw [upd_ne (ne_of_none eu ny), upd_ne (ne_of_none eu ndy)]; exact eu), fun H7 k7 b7 => ⟨rfl, ?_⟩⟩
      have s7 := su.trans (new_same ny ndy k7)
      obtain ⟨dz, t7, g5, g6⟩ := id b7
      refine ⟨o2, dx, _, rfl, s7 _ _ g1, .ins g5, o2, y, _, _, ms, ms, rfl, b2.same s7, b7, _, rfl, _, rfl, ?_⟩
      rw [if_neg Bool.false_ne_true, decide_eq_true rfl, decide_eq_true rfl]
      refine iteF ?_
      refine ⟨_, rfl, q3, _, _, _, rfl, rfl, SqL.of (s7 _ _ e3), atI_nat (j := 1) rfl, _, rfl, b, _, rfl, .inl ⟨SqL.of (s7 _ _ hb6), fun u2 nu2 => ?_⟩⟩
      have su2 := s7.trans (Same.up (o := .tup (ms.map V.int)) nu2)
      have eu2 : upd H7 u2 (.tup (ms.map V.int)) u2 = some (.tup (ms.map V.int)) := upd_same
      generalize upd H7 u2 (.tup (ms.map V.int)) = G2 at su2 eu2 ⊢
      refine fun y2 dy2 ny2 ndy2 nyd2 => ⟨y2, dy2, u2, _, ms, rfl, upd_same, .inr (by rw [upd_ne (ne_of_none eu2 ny2), upd_ne (ne_of_none eu2 ndy2)]; exact eu2), fun H8 k8 b8 => ⟨rfl, ?_⟩⟩
      have s8 := su2.trans (new_same ny2 ndy2 k8)
      obtain ⟨dz2, t8, g7, g8⟩ := id b8
      refine ⟨o2, dx, _, rfl, s8 _ _ g1, .ins g7, o2, y2, _, _, ms, ms, rfl, b2.same s8, b8, _, rfl, _, rfl, ?_⟩
      rw [if_neg Bool.false_ne_true, decide_eq_false (show ¬ ("ahead" : Str) = ("behind" : Str) by decide +kernel), Bool.false_and]
      exact iteF ⟨rfl, s8⟩
    rintro σ' H7 ⟨rfl, s7⟩
    have b1 := b1.same s7
    have b2 := b2.same s7
    have e3 := s7 _ _ e3
    have hb7 := s7 _ _ hb6
    obtain ⟨dx, t1, g1, g2⟩ := id b2
    refine ⟨_, rfl, q3, _, _, _, rfl, rfl, SqL.of e3, atI_nat (j := 1) rfl, _, rfl, b, _, rfl, .inl ⟨SqL.of hb7, fun u nu => ?_⟩⟩
    have su := Same.up (o := .tup (ms.map V.int)) nu
    have eu : upd H7 u (.tup (ms.map V.int)) u = some (.tup (ms.map V.int)) := upd_same
    generalize upd H7 u (.tup (ms.map V.int)) = G1 at su eu ⊢
    refine ⟨by show 1 ≤ sizeLine; decide, fun u9 nu9 => ?_⟩
    have su9 := Same.up (o := .tup [V.int 9]) nu9
    refine catA_i (su9 _ _ eu) upd_same hm fun c G2 sG ec => ?_
    have s8 := su.trans (su9.trans sG)
    refine fun y dy ny ndy nyd => ⟨y, dy, c, _, ms ++ [9], rfl, upd_same, .inr (by rw [upd_ne (ne_of_none ec ny), upd_ne (ne_of_none ec ndy)]; exact ec), fun H9 k9 b9 => ⟨rfl, ?_⟩⟩
    have s9 := s8.trans (new_same ny ndy k9)
    obtain ⟨dz, t9, g5, g6⟩ := id b9
    refine ⟨o2, dx, _, rfl, s9 _ _ g1, .ins g5, o2, y, _, _, ms, ms ++ [9], rfl, b2.same s9, b9, _, rfl, ?_⟩
    rw [if_pos rfl, decide_eq_true rfl, decide_eq_false (show ¬ ms = ms ++ [9] from fun z => by have := congrArg List.length z; rw [List.length_append, List.length_singleton] at this; omega)]
    refine ⟨true, rfl, iteT ?_⟩
    have e9 := s9 _ _ e3
    have b19 := b1.same s9
    have b29 := b2.same s9
    obtain ⟨dw, tw, g7, g8⟩ := id b19
    refine ⟨_, rfl, q3, _, _, _, rfl, rfl, SqL.of e9, atI_nat (j := 0) rfl, _, rfl, q3, _, _, _, rfl, rfl, SqL.of e9, atI_nat (j := 1) rfl, ?_⟩
    exact ⟨o1, dw, _, o2, dx, _, rfl, g7, rfl, s9 _ _ g1, o1, .ref o2, ks, rfl, b19, .inr (.inl ⟨o2, _, ms, rfl, b29, _, rfl, q _⟩)⟩
theorem b_lpr (T : Tx K mg A) : L2.Binds K A.d__law_parts_right ["row", "places"] [] := T.F__law_parts_right.binds fun _ _ _ _ _ _ us hl => match us, hl with | [_, _], _ => rfl

end
end Tw

set_option Elab.async false
set_option linter.all false
set_option maxRecDepth 100000
set_option maxHeartbeats 2000000
namespace Tw
open PySem PySem.Spec PyProof.Rows L2
section
variable {P : Program} {w : World} {K : PySem.W.Frag} {mg : Str → Option Value} {base : Heap} {A : Ad}
theorem ifx {tA : TT} {ta tb : TE} {σ : L2.St} {H : Hp} {Q : VK} {x : V} (b : Bool) (hA : ∀ R : Bool → Hp → Prop, R b H → tA σ H R) (h1 : b = true → ∀ R : VK, R x H → ta σ H R) (h2 : b = false → ∀ R : VK, R x H → tb σ H R) (q : Q x H) : tIf tA ta tb σ H Q := by
  refine hA _ ?_
  cases b with
  | true =>
    rw [if_pos rfl]
    exact h1 rfl _ q
  | false =>
    rw [if_neg Bool.false_ne_true]
    exact h2 rfl _ q
theorem sfd_shows (t : Nat) : (sfd t).lookup ("shows" : Str) = none := by
  unfold sfd
  rw [lookup_putF, if_neg (by decide +kernel)]
  rfl
theorem bfd_shows (x : Str) (t : Nat) : (bfd x t).lookup ("shows" : Str) = none := by
  unfold bfd
  rw [lookup_putF, if_neg (by decide +kernel), lookup_putF, if_neg (by decide +kernel)]
  rfl
theorem byO_len (n w p r : Nat) (h : (byO (ordL n w p r)).Perm (List.range n)) : (natB (byO (ordL n w p r))).length = n := by
  have := h.length_eq
  rw [List.length_range] at this
  rw [natB_len, this]
def spLaw (K : PySem.W.Frag) : Sp := fun vs H Q _ => ∃ (a : Addr) (ns : List Int), vs = [.ref a] ∧ SqL K H a (ns.map V.int) ∧ ns.length ≤ 63 ∧ ∀ H', Q (.bl true) H'
theorem ok_law (T : Tx K mg A) : FnOk P w K mg base CX0 13 A.f_law A.d_law ["script"] (spLaw K) := by
  obtain ⟨m3, kst⟩ := kst T
  obtain ⟨m4, kss⟩ := kss T
  obtain ⟨m5, kbs⟩ := kbs T
  refine T.F_law.ok sc_law (fun vs H Q E h => ?_) (fun cdv B outer s H vs Q E hr h => ?_)
  · obtain ⟨a, ns, rfl, _⟩ := h
    rfl
  · obtain ⟨a, ns, rfl, ha, h63, q⟩ := h
    have nd := sc_law.nd
    refine ⟨_, PSs.nox (C8.pss_cut (ps_par (i := 1) (j := 2) rfl nd rfl rfl (by decide) rfl rfl (pa_cons (pe_callTy call_int1 (by rfl) T.g_int (by decide +kernel) (pa_cons (pe_call (ok_num T) (hr.mono (by decide)) (by rfl) T.m__law_number T.F__law_number.kp (b_num T) .nil pass0 (pa_cons (pv 0) (pa_cons pe_int pa_nil))) pa_nil)) (pa_cons (pe_callTy call_int1 (by rfl) T.g_int (by decide +kernel) (pa_cons (pe_call (ok_num T) (hr.mono (by decide)) (by rfl) T.m__law_number T.F__law_number.kp (b_num T) .nil pass0 (pa_cons (pv 0) (pa_cons pe_int pa_nil))) pa_nil)) pa_nil)) rfl)
      (C8.pss_cut (ps_par (i := 3) (j := 4) rfl nd rfl rfl (by decide) rfl rfl (pa_cons (pe_op op_add pe_int (pe_op op_mod (pe_callTy call_int1 (by rfl) T.g_int (by decide +kernel) (pa_cons (pv 1) pa_nil)) pe_int)) (pa_cons (pe_op op_add pe_int (pe_op op_mod (pe_callTy call_int1 (by rfl) T.g_int (by decide +kernel) (pa_cons (pe_op op_fdivN (pv 1) pe_int) pa_nil)) pe_int)) pa_nil)) rfl)
      (C8.pss_cut (ps_par (i := 5) (j := 6) rfl nd rfl rfl (by decide) rfl rfl (pa_cons (pe_op op_mod (pe_callTy call_int1 (by rfl) T.g_int (by decide +kernel) (pa_cons (pv 2) pa_nil)) (pv 3)) (pa_cons (pe_op op_mod (pe_callTy call_int1 (by rfl) T.g_int (by decide +kernel) (pa_cons (pe_op op_fdivN (pv 2) pe_int) pa_nil)) (pv 3)) pa_nil)) rfl)
      (C8.pss_cut (ps_set (i := 7) nd rfl (Or.inl rfl) (pe_tupRg rfl (by rfl) T.g_tuple (prg_1 (by rfl) T.g_range (pv 3))))
      (C8.pss_cut (ps_set (i := 8) nd rfl (Or.inl rfl) (pe_callN (ok_st T) (hr.mono (by decide)) (by rfl) T.m_stand T.F_stand.kp kst pass0 (pa_cons (pv 3) (pa_cons (pv 5) (pa_cons (pv 6) pa_nil))) (pk_cons (pv 4) pk_nil)))
      (C8.pss_cut (ps_for PassesOwn.never rfl (pi_list (pe_call (ok_lro T) (hr.mono (by decide)) (by rfl) T.m__law_rows T.F__law_rows.kp (b_lro T) .nil pass0 (pa_cons (pv 0) (pa_cons (pv 3) (pa_cons (pv 4) (pa_cons (pe_ifExp (pt_val (pe_callB (r := rIsi K) call_isi (by rfl) T.g_isinstance (by decide +kernel) (pa_cons (pv 8) (pa_cons (pe_glob (v := .ref A.CS) (by rfl) T.mCS (relR _)) pa_nil)))) (pe_fld (pv 8) rfl) (pv 7)) pa_nil)))))) (pg_name (i := 9) nd rfl (Or.inl rfl)) (C8.pss_cut (ps_set (i := 10) nd rfl (Or.inl rfl) (pe_and (pe_call (ok_lfu T) (hr.mono (by decide)) (by rfl) T.m__law_is_full T.F__law_is_full.kp (b_lfu T) .nil pass0 (pa_cons (pv 9) (pa_cons (pv 3) (pa_cons (pv 4) pa_nil)))) (pe_one (pe_cmpR op_eq (pe_ix (r := rIxL K) ix_list (pv 9) (pv 5) (fun _ _ => rfl)) (pv 6) (nomark _)))))
      (pss_one (ps_for PassesOwn.never rfl (pi_tup (pe_tup (pa_cons (pv 9) (pa_cons (pe_callTy call_tuple_of (by rfl) T.g_tuple (by decide +kernel) (pa_cons (pv 9) pa_nil)) pa_nil)))) (pg_name (i := 11) nd rfl (Or.inl rfl)) (pss_one (ps_if (pt_cmpR op_ne (pe_methN (pe_make T.mkCS (ok_si T) (hr.mono (by decide)) (by rfl) T.mCS (b_si T) .nil pass0 (pa_cons (pv 11) pa_nil)) T.cTS T.M_s_shows (ok_ss T) (hr.mono (by decide)) kss pass0 (pa_cons (pv 3) (pa_cons (pv 5) (pa_cons (pv 6) pa_nil))) (pk_cons (pv 4) pk_nil)) (pv 10) (nomark _)) (pss_one (ps_ret pe_bl)) pss_nil))))))
      (C8.pss_cut (ps_for PassesOwn.never rfl (pi_list (pe_call (ok_lch T) (hr.mono (by decide)) (by rfl) T.m__law_choices T.F__law_choices.kp (b_lch T) .nil pass0 (pa_cons (pv 0) (pa_cons (pv 3) (pa_cons (pv 5) (pa_cons (pv 4) pa_nil)))))) (pg_name (i := 12) nd rfl (Or.inl rfl)) (C8.pss_cut (ps_set (i := 13) nd rfl (Or.inl rfl) (pe_lst (pa_cons (pe_lst (pa_cons pe_str (pa_cons (pe_call (ok_lab T) (hr.mono (by decide)) (by rfl) T.m__law_above T.F__law_above.kp (b_lab T) .nil pass0 (pa_cons (pv 5) (pa_cons (pv 4) pa_nil))) (pa_cons (pv 6) pa_nil)))) (pa_cons (pe_lst (pa_cons pe_str (pa_cons (pe_call (ok_lbe T) (hr.mono (by decide)) (by rfl) T.m__law_below T.F__law_below.kp (b_lbe T) .nil pass0 (pa_cons (pv 3) (pa_cons (pv 5) (pa_cons (pv 4) pa_nil)))) (pa_cons (pe_op op_sub (pe_op op_sub (pv 3) pe_int) (pv 6)) pa_nil)))) pa_nil))))
      (C8.pss_cut (ps_for PassesOwn.never rfl (pi_list (pv 13)) (pg_lst rfl (pgs_cons (pg_name (i := 14) nd rfl (Or.inl rfl)) (pgs_cons (pg_name (i := 15) nd rfl (Or.inl rfl)) (pgs_cons (pg_name (i := 16) nd rfl (Or.inl rfl)) pgs_nil)))) (pss_one (ps_if (pt_cmpR op_ne (pe_methN (pe_make T.mkCB (ok_bi T) (hr.mono (by decide)) (by rfl) T.mCB (b_bi T) .nil pass0 (pa_cons (pv 14) (pa_cons (pv 12) pa_nil))) T.cTB T.M_b_shows (ok_bs T) (hr.mono (by decide)) kbs pass0 (pa_cons (pv 3) (pa_cons (pv 5) (pa_cons (pv 6) pa_nil))) (pk_cons (pv 4) pk_nil)) (pe_call (ok_lpa T) (hr.mono (by decide)) (by rfl) T.m__law_is_part T.F__law_is_part.kp (b_lpa T) .nil pass0 (pa_cons (pv 12) (pa_cons (pv 15) (pa_cons (pv 16) pa_nil)))) (nomark _)) (pss_one (ps_ret pe_bl)) pss_nil)))
      (pss_one (ps_for PassesOwn.never rfl (pi_tup (pe_tup (pa_cons pe_str (pa_cons pe_str (pa_cons pe_str (pa_cons pe_str pa_nil)))))) (pg_name (i := 14) nd rfl (Or.inl rfl)) (pss_one (ps_if (pt_cmpR (op_notBl) (pe_methN (pe_make T.mkCB (ok_bi T) (hr.mono (by decide)) (by rfl) T.mCB (b_bi T) .nil pass0 (pa_cons (pv 14) (pa_cons (pv 12) pa_nil))) T.cTB T.M_b_shows (ok_bs T) (hr.mono (by decide)) kbs pass0 (pa_cons (pv 3) (pa_cons (pv 5) (pa_cons (pv 6) pa_nil))) (pk_cons (pv 4) pk_nil)) pe_bl (nomark _)) (pss_one (ps_ret pe_bl)) pss_nil)))))))
      (pss_one (ps_ret (pe_call (ok_lpr T) (hr.mono (by decide)) (by rfl) T.m__law_parts_right T.F__law_parts_right.kp (b_lpr T) .nil pass0 (pa_cons (pv 7) (pa_cons (pe_call (ok_lbe T) (hr.mono (by decide)) (by rfl) T.m__law_below T.F__law_below.kp (b_lbe T) .nil pass0 (pa_cons (pv 3) (pa_cons pe_int (pa_cons (pv 4) pa_nil)))) pa_nil)))))))))))), ?_⟩
    refine ⟨fun σ' H' => ∃ r1 r2 : Int, σ' = [some (.ref a), some (.int r1), some (.int r2), none, none, none, none, none, none, none, none, none, none, none, none, none, none] ∧ Same H H', ?_, ?_⟩
    · exact ⟨_, rfl, a, ns, 0, rfl, ha, h63, by omega, fun H1 r1 s1 => .inl ⟨_, rfl, _, rfl, a, ns, 1, rfl, s1.seq ha, h63, by omega, fun H2 r2 s2 => .inl ⟨_, rfl, _, _, rfl, r1, r2, rfl, s1.trans s2⟩⟩⟩
    rintro σ' H1 ⟨r1, r2, rfl, s1⟩
    refine ⟨fun σ' H' => ∃ n w : Nat, σ' = [some (.ref a), some (.int r1), some (.int r2), some (.int n), some (.int w), none, none, none, none, none, none, none, none, none, none, none, none] ∧ Same H H' ∧ Dm n w ∧ 1 ≤ n, ?_, ?_⟩
    · have a0 := Int.emod_nonneg r1 (show (9 : Int) ≠ 0 by decide)
      have a1 := Int.emod_lt_of_pos r1 (show (0 : Int) < 9 by decide)
      have b0 := Int.emod_nonneg (Int.fdiv r1 9) (show (4 : Int) ≠ 0 by decide)
      have b1 := Int.emod_lt_of_pos (Int.fdiv r1 9) (show (0 : Int) < 4 by decide)
      obtain ⟨n, hn⟩ : ∃ n : Nat, 1 + r1 % 9 = (n : Int) := ⟨(1 + r1 % 9).toNat, (Int.toNat_of_nonneg (by omega)).symm⟩
      obtain ⟨w, hw⟩ : ∃ w : Nat, 1 + Int.fdiv r1 9 % 4 = (w : Int) := ⟨(1 + Int.fdiv r1 9 % 4).toNat, (Int.toNat_of_nonneg (by omega)).symm⟩
      refine ⟨_, rfl, .inl ⟨_, rfl, _, _, rfl, rfl, by show (0 : Int) < 9; decide, _, _, rfl, rfl, _, rfl, _, _, rfl, rfl, ⟨by decide, by decide⟩, .inl ⟨_, rfl, _, _, rfl, rfl, by show (0 : Int) < 4; decide, _, _, rfl, rfl, _, _, rfl, n, w, ?_, s1, ⟨by omega, by omega, by omega⟩, by omega⟩⟩⟩
      show [some (V.ref a), some (V.int r1), some (V.int r2), some (V.int (1 + r1 % 9)), some (V.int (1 + Int.fdiv r1 9 % 4)), none, none, none, none, none, none, none, none, none, none, none, none] = _
      rw [hn, hw]
    rintro σ' H2 ⟨n, w1, rfl, s2, dm, hn1⟩
    have h9 := dm.n6
    have hw := dm.w4
    refine ⟨fun σ' H' => ∃ p r : Nat, σ' = [some (.ref a), some (.int r1), some (.int r2), some (.int n), some (.int w1), some (.int p), some (.int r), none, none, none, none, none, none, none, none, none, none] ∧ Same H H' ∧ p < n ∧ r < n, ?_, ?_⟩
    · have a0 := Int.emod_nonneg r2 (show (n : Int) ≠ 0 by omega)
      have a1 := Int.emod_lt_of_pos r2 (show (0 : Int) < (n : Int) by omega)
      have b0 := Int.emod_nonneg (Int.fdiv r2 9) (show (n : Int) ≠ 0 by omega)
      have b1 := Int.emod_lt_of_pos (Int.fdiv r2 9) (show (0 : Int) < (n : Int) by omega)
      obtain ⟨p, hp⟩ : ∃ p : Nat, r2 % (n : Int) = (p : Int) := ⟨_, (Int.toNat_of_nonneg a0).symm⟩
      obtain ⟨r, hr2⟩ : ∃ r : Nat, Int.fdiv r2 9 % (n : Int) = (r : Int) := ⟨_, (Int.toNat_of_nonneg b0).symm⟩
      refine ⟨_, rfl, .inl ⟨_, rfl, _, rfl, _, _, rfl, rfl, by omega, _, rfl, _, _, rfl, rfl, ⟨by decide, by decide⟩, .inl ⟨_, rfl, _, rfl, _, _, rfl, rfl, by omega, _, _, rfl, p, r, ?_, s2, by omega, by omega⟩⟩⟩
      show [some (V.ref a), some (V.int r1), some (V.int r2), some (V.int n), some (V.int w1), some (V.int (r2 % (n : Int))), some (V.int (Int.fdiv r2 9 % (n : Int))), none, none, none, none, none, none, none, none, none, none] = _
      rw [hp, hr2]
    rintro σ' H3 ⟨p, r, rfl, s3, hp, hr2⟩
    obtain ⟨pk, _⟩ := dm.place hp
    refine ⟨fun σ' H' => ∃ b : Addr, σ' = [some (.ref a), some (.int r1), some (.int r2), some (.int n), some (.int w1), some (.int p), some (.int r), some (.ref b), none, none, none, none, none, none, none, none, none] ∧ Same H H' ∧ H' b = some (.tup (nv (List.range n))), ?_, ?_⟩
    · refine ⟨_, rfl, _, rfl, RgOk.of_le (by omega) (by omega) (by omega) (by omega), fun b nb => ⟨b, rfl, s3.trans (Same.up nb), ?_⟩⟩
      rw [nv_rg]
      exact upd_same
    rintro σ' H4 ⟨b, rfl, s4, eb⟩
    refine ⟨fun σ' H' => ∃ q8 : Addr, σ' = [some (.ref a), some (.int r1), some (.int r2), some (.int n), some (.int w1), some (.int p), some (.int r), some (.ref b), some (.ref q8), none, none, none, none, none, none, none, none] ∧ Same H4 H' ∧ Told A n w1 p r H' q8, ?_, ?_⟩
    · exact ⟨_, rfl, _, rfl, _, rfl, _, rfl, rfl, rfl, n, p, r, w1, rfl, dm, hp, hr2, fun H5 y s5 ht => ⟨y, rfl, s5, ht⟩⟩
    rintro σ' H5 ⟨q8, rfl, s5, hT⟩
    have s05 := s4.trans s5
    have eb5 := s5 _ _ eb
    -- rows
    refine ⟨fun σ' H' => ∃ x9 x10 x11 : Option V, σ' = [some (.ref a), some (.int r1), some (.int r2), some (.int n), some (.int w1), some (.int p), some (.int r), some (.ref b), some (.ref q8), x9, x10, x11, none, none, none, none, none] ∧ Same H5 H', ?_, ?_⟩
    · have told : ∃ (bb : Bool) (tt : Addr) (ks : List Int), H5 tt = some (.tup (ks.map V.int)) ∧ ks.length = n ∧ (∃ t, TyX K H5 (.ref q8) t ∧ PySem.W.kitOne K t (.ref A.CS) = some bb) ∧
          (bb = true → ∃ dx, H5 q8 = some (.ins A.CS dx (sfd tt))) ∧ (bb = false → tt = b) := by
        rcases id hT with ⟨ro, dx, t, g1, g2⟩ | ⟨hn, x, l, hb, dx, t, g1, g2⟩
        · exact ⟨true, t, natB (byO (ordL n w1 p r)), g2, byO_len n w1 p r ro.perm, ⟨_, .base (.ins g1 T.cTS T.kaS T.knS T.ktkS T.kmS), if_pos (by simp)⟩, fun _ => ⟨dx, g1⟩, (fun z => by cases z)⟩
        · exact ⟨false, b, natB (List.range n), eb5, by rw [natB_len, List.length_range], ⟨_, .base (.ins g1 T.cTB T.kaB T.knB T.ktkB T.kmB), T.kiS_CB⟩, (fun z => by cases z), fun _ => rfl⟩
      obtain ⟨bb, tt, ks, ett, hks, ⟨ty, k1, k2⟩, y1, y2⟩ := told
      refine ⟨_, rfl, _, rfl, _, rfl, ?_⟩
      refine ifx (x := .ref tt) bb (fun R z => ⟨_, rfl, _, _, ty, _, bb, rfl, .own A.CS, k1, k2, bb, rfl, z⟩) (fun z R rr => ?_) (fun z R rr => ?_) ?_
      · obtain ⟨dx, g1⟩ := y1 z
        exact ⟨_, rfl, q8, A.CS, dx, _, _, rfl, g1, T.cTS, T.sRow, sfd_row _, rr⟩
      · rw [y2 z] at rr
        exact ⟨_, rfl, rr⟩
      refine ⟨a, tt, n, w1, ns, ks, rfl, s05.seq ha, h63, hn1, h9, ett, hks, fun H6 q9 xs s6 e6 r6 => ?_⟩
      refine ⟨q9, rfl, ⟨_, SqL.of e6⟩, ?_⟩
      refine for_it (walk_list (xs := xs)) (fun i σ' H' => ∃ x9 x10 x11 : Option V, σ' = [some (.ref a), some (.int r1), some (.int r2), some (.int n), some (.int w1), some (.int p), some (.int r), some (.ref b), some (.ref q8), x9, x10, x11, none, none, none, none, none] ∧ Same H6 H') ⟨none, none, none, rfl, Same.refl _⟩ (fun i σ' H' _ ⟨_, _, _, _, s⟩ => SqL.of (s _ _ e6)) ?_ ?_
      · rintro i y σ' H7 H8 hi ⟨x9, x10, x11, rfl, s8⟩ ⟨rfl, hy⟩
        obtain ⟨t, ms, rfl, et, hm⟩ := (r6 y (List.mem_of_getElem? hy)).same s8
        refine ⟨fun σ' H' => σ' = [some (.ref a), some (.int r1), some (.int r2), some (.int n), some (.int w1), some (.int p), some (.int r), some (.ref b), some (.ref q8), some (.ref t), some (.bl (lfB n w1 ms && decide (ms.getD p 0 = (r : Int)))), x11, none, none, none, none, none] ∧ Same H8 H', ?_, ?_⟩
        · refine ⟨_, rfl, _, rfl, _, rfl, t, n, w1, ms, rfl, et, hm, by omega, hw, fun H9 s9 => ?_⟩
          by_cases hf : lfB n w1 ms = true
          · rw [hf]
            have hlen : ms.length = n := by
              unfold lfB at hf
              have := (List.isPerm_iff.mp (Bool.and_eq_true_iff.mp hf).1).length_eq
              unfold natB at this
              rw [List.length_map, List.length_range] at this
              exact this
            refine ⟨_, rfl, iteT ⟨_, rfl, _, rfl, t, _, _, _, rfl, rfl, SqL.of (s9 _ _ et), atI_nat (int_getD (p := p) (by omega)), _, rfl, rfl, ?_, s9⟩⟩
            rw [Bool.true_and]
            rw [show decide (V.int (ms.getD p 0) = V.int (r : Int)) = decide (ms.getD p 0 = (r : Int)) from decide_eq_decide.mpr ⟨fun z => by injection z, fun z => by rw [z]⟩]
            rfl
          · rw [Bool.eq_false_iff.mpr hf]
            exact ⟨_, rfl, iteF ⟨rfl, s9⟩⟩
        rintro σ' H9 ⟨rfl, s9⟩
        have et9 := s9 _ _ et
        refine ⟨_, rfl, _, rfl, t, _, rfl, .inl ⟨SqL.of et9, fun u nu => ?_⟩⟩
        have su := Same.up (o := .tup (ms.map V.int)) nu
        have eu : upd H9 u (.tup (ms.map V.int)) u = some (.tup (ms.map V.int)) := upd_same
        generalize upd H9 u (.tup (ms.map V.int)) = G1 at su eu ⊢
        refine ⟨by show 2 ≤ sizeLine; decide, fun T2 nT => ?_⟩
        have sT := Same.up (o := .tup [V.ref t, V.ref u]) nT
        have eT : upd G1 T2 (.tup [V.ref t, V.ref u]) T2 = some (.tup [V.ref t, V.ref u]) := upd_same
        have eu := sT _ _ eu
        have et2 := sT _ _ (su _ _ et9)
        have s9T := s9.trans (su.trans sT)
        generalize upd G1 T2 (.tup [V.ref t, V.ref u]) = G2 at sT eT eu et2 s9T ⊢
        have both : ∀ x ∈ [V.ref t, V.ref u], ∃ z : Addr, x = .ref z ∧ Sq G2 z (ms.map V.int) := fun x hx => by
          simp only [List.mem_cons, List.not_mem_nil, or_false] at hx
          rcases hx with rfl | rfl
          · exact ⟨t, rfl, .inl et2⟩
          · exact ⟨u, rfl, .inr eu⟩
        refine ⟨T2, rfl, ⟨_, SqT.of eT⟩, ?_⟩
        refine for_it (walk_tup (xs := [V.ref t, V.ref u])) (fun i σ' H' => ∃ x11 : Option V, σ' = [some (.ref a), some (.int r1), some (.int r2), some (.int n), some (.int w1), some (.int p), some (.int r), some (.ref b), some (.ref q8), some (.ref t), some (.bl (lfB n w1 ms && decide (ms.getD p 0 = (r : Int)))), x11, none, none, none, none, none] ∧ Same G2 H') ⟨x11, rfl, Same.refl _⟩ (fun i σ' H' _ ⟨_, _, s⟩ => SqT.of (s _ _ eT)) ?_ ?_
        · rintro i y σ' HA HB hi2 ⟨y11, rfl, sB⟩ ⟨rfl, hy2⟩
          obtain ⟨z, rfl, hz⟩ := both y (List.mem_of_getElem? hy2)
          have hzB := hz.same sB
          refine ⟨_, rfl, fun o dy no ndy nod => ⟨o, dy, z, ms, rfl, upd_same, ?_, fun HC kC bC => ⟨rfl, ?_⟩⟩⟩
          · rcases hzB with h | h
            · exact .inl (by rw [upd_ne (ne_of_none h no), upd_ne (ne_of_none h ndy)]; exact h)
            · exact .inr (by rw [upd_ne (ne_of_none h no), upd_ne (ne_of_none h ndy)]; exact h)
          have sC := new_same no ndy kC
          obtain ⟨dx, t6, g5, g6⟩ := id bC
          refine ⟨o, dx, _, rfl, g5, sfd_shows t6, _, rfl, _, rfl, _, rfl, _, rfl, rfl, rfl, o, n, p, r, w1, ms, rfl, bC, hm, by omega, hw, hp, hr2, fun HD sD => ?_⟩
          refine ⟨_, rfl, rfl, _, rfl, ?_⟩
          rw [fh_lf n w1 ms hw.1, decide_eq_true rfl]
          exact iteF ⟨_, rfl, sB.trans (sC.trans sD)⟩
        · rintro σ' HA ⟨y11, rfl, sA⟩
          exact ⟨_, _, _, rfl, s8.trans (s9T.trans sA)⟩
      · rintro σ' H7 ⟨x9, x10, x11, rfl, s7⟩
        exact ⟨x9, x10, x11, rfl, s6.trans s7⟩
    rintro σ' H6 ⟨x9, x10, x11, rfl, s6⟩
    have s06 := s05.trans s6
    -- places
    refine ⟨fun σ' H' => ∃ x12 x13 x14 x15 x16 : Option V, σ' = [some (.ref a), some (.int r1), some (.int r2), some (.int n), some (.int w1), some (.int p), some (.int r), some (.ref b), some (.ref q8), x9, x10, x11, x12, x13, x14, x15, x16] ∧ Same H6 H', ?_, ?_⟩
    · refine ⟨_, rfl, _, rfl, _, rfl, _, rfl, a, n, p, w1, ns, rfl, s06.seq ha, h63, hn1, h9, hp, hw, fun H7 q9 xs s7 e7 r7 => ?_⟩
      refine ⟨q9, rfl, ⟨_, SqL.of e7⟩, ?_⟩
      refine for_it (walk_list (xs := xs)) (fun i σ' H' => ∃ x12 x13 x14 x15 x16 : Option V, σ' = [some (.ref a), some (.int r1), some (.int r2), some (.int n), some (.int w1), some (.int p), some (.int r), some (.ref b), some (.ref q8), x9, x10, x11, x12, x13, x14, x15, x16] ∧ Same H7 H') ⟨none, none, none, none, none, rfl, Same.refl _⟩ (fun i σ' H' _ ⟨_, _, _, _, _, _, s⟩ => SqL.of (s _ _ e7)) ?_ ?_
      · rintro i y σ' H8 H9 hi ⟨x12, x13, x14, x15, x16, rfl, s9⟩ ⟨rfl, hy⟩
        obtain ⟨t, ms, rfl, et, hm⟩ := (r7 y (List.mem_of_getElem? hy)).same s9
        refine ⟨fun σ' H' => ∃ qA L1 L2 z1 z2 : Addr, σ' = [some (.ref a), some (.int r1), some (.int r2), some (.int n), some (.int w1), some (.int p), some (.int r), some (.ref b), some (.ref q8), x9, x10, x11, some (.ref t), some (.ref qA), x14, x15, x16] ∧ Same H9 H' ∧ H' qA = some (.lst [.ref L1, .ref L2]) ∧
            H' L1 = some (.lst [.str "ahead", .ref z1, .int r]) ∧ H' L2 = some (.lst [.str "behind", .ref z2, .int ((n : Int) - 1 - (r : Int))]) ∧ H' z1 = some (.lst (nv (aboveL w1 p))) ∧ H' z2 = some (.lst (nv (belowL n w1 p))), ?_, ?_⟩
        · refine ⟨_, rfl, _, rfl, p, w1, rfl, by omega, hw, fun HA z1 sA nA eA => ⟨_, rfl, by show 3 ≤ sizeLine; decide, fun L1 n1 => ?_⟩⟩
          have u1 := Same.up (o := .lst [V.str "ahead", V.ref z1, V.int r]) n1
          have f1 : upd HA L1 (.lst [V.str "ahead", V.ref z1, V.int r]) L1 = some (.lst [V.str "ahead", V.ref z1, V.int r]) := upd_same
          have eA := u1 _ _ eA
          generalize upd HA L1 (.lst [V.str "ahead", V.ref z1, V.int r]) = G1 at u1 f1 eA ⊢
          refine ⟨_, rfl, _, rfl, _, rfl, n, p, w1, rfl, by omega, hw, fun HB z2 sB nB eB => ?_⟩
          refine ⟨_, rfl, _, _, rfl, rfl, _, rfl, _, _, rfl, rfl, by show 3 ≤ sizeLine; decide, fun L2 n2 => ?_⟩
          have u2 := Same.up (o := .lst [V.str "behind", V.ref z2, V.int ((n : Int) - 1 - (r : Int))]) n2
          have f2 : upd HB L2 (.lst [V.str "behind", V.ref z2, V.int ((n : Int) - 1 - (r : Int))]) L2 = some (.lst [V.str "behind", V.ref z2, V.int ((n : Int) - 1 - (r : Int))]) := upd_same
          have eB := u2 _ _ eB
          have f1 := u2 _ _ (sB _ _ f1)
          have eA := u2 _ _ (sB _ _ eA)
          refine ⟨by show 2 ≤ sizeLine; decide, fun qA n3 => ?_⟩
          have u3 := Same.up (o := .lst [V.ref L1, V.ref L2]) n3
          exact ⟨qA, L1, L2, z1, z2, rfl, sA.trans (u1.trans (sB.trans (u2.trans u3))), upd_same, u3 _ _ f1, u3 _ _ f2, u3 _ _ eA, u3 _ _ eB⟩
        rintro σ' HA ⟨qA, L1, L2, z1, z2, rfl, sA, eA, f1, f2, g1, g2⟩
        have etA := sA _ _ et
        refine ⟨fun σ' H' => ∃ x14 x15 x16 : Option V, σ' = [some (.ref a), some (.int r1), some (.int r2), some (.int n), some (.int w1), some (.int p), some (.int r), some (.ref b), some (.ref q8), x9, x10, x11, some (.ref t), some (.ref qA), x14, x15, x16] ∧ Same HA H', ?_, ?_⟩
        · have able : ∀ y ∈ [V.ref L1, V.ref L2], ∃ (L z : Addr) (x : Str) (l : List Nat) (m : Int), y = .ref L ∧ HA L = some (.lst [.str x, .ref z, .int m]) ∧ HA z = some (.lst (nv l)) ∧ brB n w1 p r x ms = partB ms l m := fun y hy => by
            simp only [List.mem_cons, List.not_mem_nil, or_false] at hy
            rcases hy with rfl | rfl
            · refine ⟨L1, z1, _, _, _, rfl, f1, g1, ?_⟩
              unfold brB
              rw [if_pos rfl]
              exact set_part pk.ab pk.an
            · refine ⟨L2, z2, _, _, _, rfl, f2, g2, ?_⟩
              unfold brB
              rw [if_neg (by decide +kernel), if_pos rfl, pk.be]
              exact set_part (fun _ => Iff.rfl) pk.bn
          refine ⟨_, rfl, qA, rfl, ⟨_, SqL.of eA⟩, ?_⟩
          refine for_it (walk_list (xs := [V.ref L1, V.ref L2])) (fun i σ' H' => ∃ x14 x15 x16 : Option V, σ' = [some (.ref a), some (.int r1), some (.int r2), some (.int n), some (.int w1), some (.int p), some (.int r), some (.ref b), some (.ref q8), x9, x10, x11, some (.ref t), some (.ref qA), x14, x15, x16] ∧ Same HA H') ⟨x14, x15, x16, rfl, Same.refl _⟩ (fun i σ' H' _ ⟨_, _, _, _, s⟩ => SqL.of (s _ _ eA)) ?_ ?_
          · rintro i y σ' HB HC hi2 ⟨y14, y15, y16, rfl, sC⟩ ⟨rfl, hy2⟩
            obtain ⟨L, z, x, l, m, rfl, eL, ez, heq⟩ := able y (List.mem_of_getElem? hy2)
            refine ⟨L, _, rfl, SqL.of (sC _ _ eL), rfl, _, _, rfl, _, _, rfl, _, _, rfl, rfl, ?_⟩
            have etC := sC _ _ etA
            refine ⟨_, rfl, _, rfl, fun o dy no ndy nod => ⟨o, dy, t, x, ms, rfl, upd_same, .inr (by rw [upd_ne (ne_of_none etC no), upd_ne (ne_of_none etC ndy)]; exact etC), fun HD kD bD => ⟨rfl, ?_⟩⟩⟩
            have sD := new_same no ndy kD
            obtain ⟨dx, t6, g5, g6⟩ := id bD
            refine ⟨o, dx, _, rfl, g5, bfd_shows x t6, _, rfl, _, rfl, _, rfl, _, rfl, rfl, rfl, o, n, p, r, w1, x, ms, rfl, bD, hm, by omega, hw, hp, hr2, pk, fun HE sE => ?_⟩
            have sCE := sC.trans (sD.trans sE)
            refine ⟨_, rfl, _, rfl, _, rfl, t, z, m, ms, l, rfl, sCE _ _ etA, sCE _ _ ez, hm, fun HF sF => ?_⟩
            refine ⟨rfl, _, rfl, ?_⟩
            rw [heq, decide_eq_true rfl]
            exact iteF ⟨_, _, _, rfl, sCE.trans sF⟩
          · rintro σ' HB ⟨y14, y15, y16, rfl, sB⟩
            exact ⟨y14, y15, y16, rfl, sB⟩
        rintro σ' HB ⟨y14, y15, y16, rfl, sB⟩
        have etB := sB _ _ etA
        refine ⟨by show 4 ≤ sizeLine; decide, fun T2 nT => ?_⟩
        have sT := Same.up (o := .tup [V.str "", V.str "Ahead", V.str "above", V.str "behind "]) nT
        have eT : upd HB T2 (.tup [V.str "", V.str "Ahead", V.str "above", V.str "behind "]) T2 = some (.tup [V.str "", V.str "Ahead", V.str "above", V.str "behind "]) := upd_same
        have etT := sT _ _ etB
        generalize upd HB T2 (.tup [V.str "", V.str "Ahead", V.str "above", V.str "behind "]) = G2 at sT eT etT ⊢
        have words : ∀ y ∈ [V.str "", V.str "Ahead", V.str "above", V.str "behind "], ∃ x : Str, y = .str x ∧ brB n w1 p r x ms = false := fun y hy => by
          simp only [List.mem_cons, List.not_mem_nil, or_false] at hy
          rcases hy with rfl | rfl | rfl | rfl
          all_goals
            refine ⟨_, rfl, ?_⟩
            unfold brB
            rw [if_neg (by decide +kernel), if_neg (by decide +kernel), Bool.and_false]
        refine ⟨T2, rfl, ⟨_, SqT.of eT⟩, ?_⟩
        refine for_it (walk_tup (xs := [V.str "", V.str "Ahead", V.str "above", V.str "behind "])) (fun i σ' H' => ∃ x14 : Option V, σ' = [some (.ref a), some (.int r1), some (.int r2), some (.int n), some (.int w1), some (.int p), some (.int r), some (.ref b), some (.ref q8), x9, x10, x11, some (.ref t), some (.ref qA), x14, y15, y16] ∧ Same G2 H') ⟨y14, rfl, Same.refl _⟩ (fun i σ' H' _ ⟨_, _, s⟩ => SqT.of (s _ _ eT)) ?_ ?_
        · rintro i y σ' HC HD hi2 ⟨z14, rfl, sD⟩ ⟨rfl, hy2⟩
          obtain ⟨x, rfl, hx⟩ := words y (List.mem_of_getElem? hy2)
          have etD := sD _ _ etT
          refine ⟨_, rfl, _, rfl, fun o dy no ndy nod => ⟨o, dy, t, x, ms, rfl, upd_same, .inr (by rw [upd_ne (ne_of_none etD no), upd_ne (ne_of_none etD ndy)]; exact etD), fun HE kE bE => ⟨rfl, ?_⟩⟩⟩
          have sE := new_same no ndy kE
          obtain ⟨dx, t6, g5, g6⟩ := id bE
          refine ⟨o, dx, _, rfl, g5, bfd_shows x t6, _, rfl, _, rfl, _, rfl, _, rfl, rfl, rfl, o, n, p, r, w1, x, ms, rfl, bE, hm, by omega, hw, hp, hr2, pk, fun HF sF => ?_⟩
          rw [hx]
          refine ⟨_, _, rfl, rfl, _, rfl, ?_⟩
          exact iteF ⟨_, rfl, sD.trans (sE.trans sF)⟩
        · rintro σ' HC ⟨z14, rfl, sC⟩
          exact ⟨_, _, _, _, _, rfl, s9.trans (sA.trans (sB.trans (sT.trans sC)))⟩
      · rintro σ' H8 ⟨x12, x13, x14, x15, x16, rfl, s8⟩
        exact ⟨x12, x13, x14, x15, x16, rfl, s7.trans s8⟩
    rintro σ' H7 ⟨x12, x13, x14, x15, x16, rfl, s7⟩
    refine ⟨_, rfl, _, rfl, _, rfl, n, 0, w1, rfl, by omega, hw, fun H8 z s8 n8 e8 => ?_⟩
    refine ⟨b, z, natB (List.range n), natB (belowL n w1 0), rfl, s8 _ _ (s7 _ _ (s6 _ _ eb5)), e8, by rw [natB_len, List.length_range]; omega, ?_, fun H9 => q _⟩
    rw [natB_len]
    unfold belowL
    exact Nat.le_trans (List.length_filter_le _ _) (by rw [List.length_range]; omega)
theorem b_law (T : Tx K mg A) : L2.Binds K A.d_law ["script"] [] := T.F_law.binds fun _ _ _ _ _ _ us hl => match us, hl with | [_], _ => rfl

end
end Tw

set_option Elab.async false
set_option linter.all false
set_option maxRecDepth 100000
set_option maxHeartbeats 2000000
namespace Tw
open PySem PySem.Spec PyProof.Rows L2
theorem kit_no {K : PySem.W.Frag} {C : Addr} {t : String} (hc : PySem.W.isClsIn K C = true) (ht : PySem.W.typeIn K (.ref C) = some (.type "type")) (hs : PySem.W.subIn K (.type t) (.ref C) = some false) : PySem.W.kitOne K (.type t) (.ref C) = some false := by
  unfold PySem.W.kitOne PySem.W.kitCls
  have h1 : (PySem.W.clsIn K C).isSome = true := hc
  simp only [h1, ht, hs, beq_self_eq_true, Bool.and_self, if_true]
  rfl
theorem kit_no2 {K : PySem.W.Frag} {C D : Addr} (hc : PySem.W.isClsIn K C = true) (ht : PySem.W.typeIn K (.ref C) = some (.type "type")) (hs : PySem.W.subIn K (.ref D) (.ref C) = some false) (hn : (D == C) = false) : PySem.W.kitOne K (.ref D) (.ref C) = some false := by
  unfold PySem.W.kitOne PySem.W.kitCls
  have h1 : (PySem.W.clsIn K C).isSome = true := hc
  have h2 : (Value.ref D == Value.ref C) = false := beq_eq_false_iff_ne.mpr fun z => by
    injection z with z
    exact (beq_eq_false_iff_ne.mp hn) z
  rw [h2, if_neg Bool.false_ne_true]
  simp only [h1, ht, hs, beq_self_eq_true, Bool.and_self, if_true]
theorem all_mk {l : PySem.W.OpenLaw} {w : World} {K : PySem.W.Frag} {h : Heap} {mg : Str → Option Value} (X : K.In h) (G : h.Ns mainGlobals mg) {fa C CS CB po D_t___init__ D_t_of D_is_heap D_faults D_s_shows D_b_shows D_stand f_is_integer f_is_integer_from f_is_key f_check_arms f_check_many f_check_place f_row_of f_is_full f_is_set_of_places f_t___init__ f_t_of f_t___len__ f_t___iter__ f_t___getitem__ f_t_parent f_t_way_to f_t_subtree f_is_heap f_faults f_is_full_heap f_s___init__ f_s___eq__ f_s_shows f_b___init__ f_b___eq__ f_b_shows f_stand f_tree_of_standing f_places_above f_places_below f_are_among f_row_by_order f__law_number f__law_above f__law_below f__law_is_full f__law_is_part f__law_rows f__law_choices f__law_parts_right f_law : Addr} {od_is_integer an_is_integer : Option Addr} {sl_is_integer : Array (Option Value)} {oc_is_integer kV_is_integer dc_is_integer pm_is_integer cd_is_integer ct_is_integer : Value} {od_is_integer_from an_is_integer_from : Option Addr} {sl_is_integer_from : Array (Option Value)} {oc_is_integer_from kV_is_integer_from dc_is_integer_from pm_is_integer_from cd_is_integer_from ct_is_integer_from : Value} {od_is_key an_is_key : Option Addr} {sl_is_key : Array (Option Value)} {oc_is_key kV_is_key dc_is_key pm_is_key cd_is_key ct_is_key : Value} {od_check_arms an_check_arms : Option Addr} {sl_check_arms : Array (Option Value)} {oc_check_arms kV_check_arms dc_check_arms pm_check_arms cd_check_arms ct_check_arms : Value} {od_check_many an_check_many : Option Addr} {sl_check_many : Array (Option Value)} {oc_check_many kV_check_many dc_check_many pm_check_many cd_check_many ct_check_many : Value} {od_check_place an_check_place : Option Addr} {sl_check_place : Array (Option Value)} {oc_check_place kV_check_place dc_check_place pm_check_place cd_check_place ct_check_place : Value} {od_row_of an_row_of : Option Addr} {sl_row_of : Array (Option Value)} {oc_row_of kV_row_of dc_row_of pm_row_of cd_row_of ct_row_of : Value} {od_is_full an_is_full : Option Addr} {sl_is_full : Array (Option Value)} {oc_is_full kV_is_full dc_is_full pm_is_full cd_is_full ct_is_full : Value} {od_is_set_of_places an_is_set_of_places : Option Addr} {sl_is_set_of_places : Array (Option Value)} {oc_is_set_of_places kV_is_set_of_places dc_is_set_of_places pm_is_set_of_places cd_is_set_of_places ct_is_set_of_places : Value} {od_t___init__ an_t___init__ : Option Addr} {sl_t___init__ : Array (Option Value)} {oc_t___init__  dc_t___init__ pm_t___init__ cd_t___init__ ct_t___init__ : Value} {od_t_of an_t_of : Option Addr} {sl_t_of : Array (Option Value)} {oc_t_of  dc_t_of pm_t_of cd_t_of ct_t_of : Value} {od_t___len__ an_t___len__ : Option Addr} {sl_t___len__ : Array (Option Value)} {oc_t___len__ kV_t___len__ dc_t___len__ pm_t___len__ cd_t___len__ ct_t___len__ : Value} {od_t___iter__ an_t___iter__ : Option Addr} {sl_t___iter__ : Array (Option Value)} {oc_t___iter__ kV_t___iter__ dc_t___iter__ pm_t___iter__ cd_t___iter__ ct_t___iter__ : Value} {od_t___getitem__ an_t___getitem__ : Option Addr} {sl_t___getitem__ : Array (Option Value)} {oc_t___getitem__ kV_t___getitem__ dc_t___getitem__ pm_t___getitem__ cd_t___getitem__ ct_t___getitem__ : Value} {od_t_parent an_t_parent : Option Addr} {sl_t_parent : Array (Option Value)} {oc_t_parent kV_t_parent dc_t_parent pm_t_parent cd_t_parent ct_t_parent : Value} {od_t_way_to an_t_way_to : Option Addr} {sl_t_way_to : Array (Option Value)} {oc_t_way_to kV_t_way_to dc_t_way_to pm_t_way_to cd_t_way_to ct_t_way_to : Value} {od_t_subtree an_t_subtree : Option Addr} {sl_t_subtree : Array (Option Value)} {oc_t_subtree kV_t_subtree dc_t_subtree pm_t_subtree cd_t_subtree ct_t_subtree : Value} {od_is_heap an_is_heap : Option Addr} {sl_is_heap : Array (Option Value)} {oc_is_heap  dc_is_heap pm_is_heap cd_is_heap ct_is_heap : Value} {od_faults an_faults : Option Addr} {sl_faults : Array (Option Value)} {oc_faults  dc_faults pm_faults cd_faults ct_faults : Value} {od_is_full_heap an_is_full_heap : Option Addr} {sl_is_full_heap : Array (Option Value)} {oc_is_full_heap kV_is_full_heap dc_is_full_heap pm_is_full_heap cd_is_full_heap ct_is_full_heap : Value} {od_s___init__ an_s___init__ : Option Addr} {sl_s___init__ : Array (Option Value)} {oc_s___init__ kV_s___init__ dc_s___init__ pm_s___init__ cd_s___init__ ct_s___init__ : Value} {od_s___eq__ an_s___eq__ : Option Addr} {sl_s___eq__ : Array (Option Value)} {oc_s___eq__ kV_s___eq__ dc_s___eq__ pm_s___eq__ cd_s___eq__ ct_s___eq__ : Value} {od_s_shows an_s_shows : Option Addr} {sl_s_shows : Array (Option Value)} {oc_s_shows  dc_s_shows pm_s_shows cd_s_shows ct_s_shows : Value} {od_b___init__ an_b___init__ : Option Addr} {sl_b___init__ : Array (Option Value)} {oc_b___init__ kV_b___init__ dc_b___init__ pm_b___init__ cd_b___init__ ct_b___init__ : Value} {od_b___eq__ an_b___eq__ : Option Addr} {sl_b___eq__ : Array (Option Value)} {oc_b___eq__ kV_b___eq__ dc_b___eq__ pm_b___eq__ cd_b___eq__ ct_b___eq__ : Value} {od_b_shows an_b_shows : Option Addr} {sl_b_shows : Array (Option Value)} {oc_b_shows  dc_b_shows pm_b_shows cd_b_shows ct_b_shows : Value} {od_stand an_stand : Option Addr} {sl_stand : Array (Option Value)} {oc_stand  dc_stand pm_stand cd_stand ct_stand : Value} {od_tree_of_standing an_tree_of_standing : Option Addr} {sl_tree_of_standing : Array (Option Value)} {oc_tree_of_standing kV_tree_of_standing dc_tree_of_standing pm_tree_of_standing cd_tree_of_standing ct_tree_of_standing : Value} {od_places_above an_places_above : Option Addr} {sl_places_above : Array (Option Value)} {oc_places_above kV_places_above dc_places_above pm_places_above cd_places_above ct_places_above : Value} {od_places_below an_places_below : Option Addr} {sl_places_below : Array (Option Value)} {oc_places_below kV_places_below dc_places_below pm_places_below cd_places_below ct_places_below : Value} {od_are_among an_are_among : Option Addr} {sl_are_among : Array (Option Value)} {oc_are_among kV_are_among dc_are_among pm_are_among cd_are_among ct_are_among : Value} {od_row_by_order an_row_by_order : Option Addr} {sl_row_by_order : Array (Option Value)} {oc_row_by_order kV_row_by_order dc_row_by_order pm_row_by_order cd_row_by_order ct_row_by_order : Value} {od__law_number an__law_number : Option Addr} {sl__law_number : Array (Option Value)} {oc__law_number kV__law_number dc__law_number pm__law_number cd__law_number ct__law_number : Value} {od__law_above an__law_above : Option Addr} {sl__law_above : Array (Option Value)} {oc__law_above kV__law_above dc__law_above pm__law_above cd__law_above ct__law_above : Value} {od__law_below an__law_below : Option Addr} {sl__law_below : Array (Option Value)} {oc__law_below kV__law_below dc__law_below pm__law_below cd__law_below ct__law_below : Value} {od__law_is_full an__law_is_full : Option Addr} {sl__law_is_full : Array (Option Value)} {oc__law_is_full kV__law_is_full dc__law_is_full pm__law_is_full cd__law_is_full ct__law_is_full : Value} {od__law_is_part an__law_is_part : Option Addr} {sl__law_is_part : Array (Option Value)} {oc__law_is_part kV__law_is_part dc__law_is_part pm__law_is_part cd__law_is_part ct__law_is_part : Value} {od__law_rows an__law_rows : Option Addr} {sl__law_rows : Array (Option Value)} {oc__law_rows kV__law_rows dc__law_rows pm__law_rows cd__law_rows ct__law_rows : Value} {od__law_choices an__law_choices : Option Addr} {sl__law_choices : Array (Option Value)} {oc__law_choices kV__law_choices dc__law_choices pm__law_choices cd__law_choices ct__law_choices : Value} {od__law_parts_right an__law_parts_right : Option Addr} {sl__law_parts_right : Array (Option Value)} {oc__law_parts_right kV__law_parts_right dc__law_parts_right pm__law_parts_right cd__law_parts_right ct__law_parts_right : Value} {od_law an_law : Option Addr} {sl_law : Array (Option Value)} {oc_law kV_law dc_law pm_law cd_law ct_law : Value}
    (hfa : mg "law" = some (.ref fa))
    (aC : PySem.W.nsIn K mainGlobals "Tree" = some (some (.ref C)))
    (aCS : PySem.W.nsIn K mainGlobals "Stands" = some (some (.ref CS)))
    (aCB : PySem.W.nsIn K mainGlobals "Barred" = some (some (.ref CB)))
    (a_is_integer : PySem.W.nsIn K mainGlobals "is_integer" = some (some (.ref f_is_integer)))
    (l_is_integer : K.lookup f_is_integer = some ⟨oc_is_integer, od_is_integer, .func (PySem.W.fnOf "is_integer" "is_integer" (defArgs s_is_integer) (defBody s_is_integer) (defScope s_is_integer) .none kV_is_integer dc_is_integer pm_is_integer an_is_integer cd_is_integer ct_is_integer), sl_is_integer⟩)
    (c_is_integer : PySem.W.codeIn K cd_is_integer "is_integer" = true)
    (k_is_integer : PySem.W.keepIn K (.ref f_is_integer) = true)
    (a_is_integer_from : PySem.W.nsIn K mainGlobals "is_integer_from" = some (some (.ref f_is_integer_from)))
    (l_is_integer_from : K.lookup f_is_integer_from = some ⟨oc_is_integer_from, od_is_integer_from, .func (PySem.W.fnOf "is_integer_from" "is_integer_from" (defArgs s_is_integer_from) (defBody s_is_integer_from) (defScope s_is_integer_from) .none kV_is_integer_from dc_is_integer_from pm_is_integer_from an_is_integer_from cd_is_integer_from ct_is_integer_from), sl_is_integer_from⟩)
    (c_is_integer_from : PySem.W.codeIn K cd_is_integer_from "is_integer_from" = true)
    (k_is_integer_from : PySem.W.keepIn K (.ref f_is_integer_from) = true)
    (a_is_key : PySem.W.nsIn K mainGlobals "is_key" = some (some (.ref f_is_key)))
    (l_is_key : K.lookup f_is_key = some ⟨oc_is_key, od_is_key, .func (PySem.W.fnOf "is_key" "is_key" (defArgs s_is_key) (defBody s_is_key) (defScope s_is_key) .none kV_is_key dc_is_key pm_is_key an_is_key cd_is_key ct_is_key), sl_is_key⟩)
    (c_is_key : PySem.W.codeIn K cd_is_key "is_key" = true)
    (k_is_key : PySem.W.keepIn K (.ref f_is_key) = true)
    (a_check_arms : PySem.W.nsIn K mainGlobals "check_arms" = some (some (.ref f_check_arms)))
    (l_check_arms : K.lookup f_check_arms = some ⟨oc_check_arms, od_check_arms, .func (PySem.W.fnOf "check_arms" "check_arms" (defArgs s_check_arms) (defBody s_check_arms) (defScope s_check_arms) .none kV_check_arms dc_check_arms pm_check_arms an_check_arms cd_check_arms ct_check_arms), sl_check_arms⟩)
    (c_check_arms : PySem.W.codeIn K cd_check_arms "check_arms" = true)
    (k_check_arms : PySem.W.keepIn K (.ref f_check_arms) = true)
    (a_check_many : PySem.W.nsIn K mainGlobals "check_many" = some (some (.ref f_check_many)))
    (l_check_many : K.lookup f_check_many = some ⟨oc_check_many, od_check_many, .func (PySem.W.fnOf "check_many" "check_many" (defArgs s_check_many) (defBody s_check_many) (defScope s_check_many) .none kV_check_many dc_check_many pm_check_many an_check_many cd_check_many ct_check_many), sl_check_many⟩)
    (c_check_many : PySem.W.codeIn K cd_check_many "check_many" = true)
    (k_check_many : PySem.W.keepIn K (.ref f_check_many) = true)
    (a_check_place : PySem.W.nsIn K mainGlobals "check_place" = some (some (.ref f_check_place)))
    (l_check_place : K.lookup f_check_place = some ⟨oc_check_place, od_check_place, .func (PySem.W.fnOf "check_place" "check_place" (defArgs s_check_place) (defBody s_check_place) (defScope s_check_place) .none kV_check_place dc_check_place pm_check_place an_check_place cd_check_place ct_check_place), sl_check_place⟩)
    (c_check_place : PySem.W.codeIn K cd_check_place "check_place" = true)
    (k_check_place : PySem.W.keepIn K (.ref f_check_place) = true)
    (a_row_of : PySem.W.nsIn K mainGlobals "row_of" = some (some (.ref f_row_of)))
    (l_row_of : K.lookup f_row_of = some ⟨oc_row_of, od_row_of, .func (PySem.W.fnOf "row_of" "row_of" (defArgs s_row_of) (defBody s_row_of) (defScope s_row_of) .none kV_row_of dc_row_of pm_row_of an_row_of cd_row_of ct_row_of), sl_row_of⟩)
    (c_row_of : PySem.W.codeIn K cd_row_of "row_of" = true)
    (k_row_of : PySem.W.keepIn K (.ref f_row_of) = true)
    (a_is_full : PySem.W.nsIn K mainGlobals "is_full" = some (some (.ref f_is_full)))
    (l_is_full : K.lookup f_is_full = some ⟨oc_is_full, od_is_full, .func (PySem.W.fnOf "is_full" "is_full" (defArgs s_is_full) (defBody s_is_full) (defScope s_is_full) .none kV_is_full dc_is_full pm_is_full an_is_full cd_is_full ct_is_full), sl_is_full⟩)
    (c_is_full : PySem.W.codeIn K cd_is_full "is_full" = true)
    (k_is_full : PySem.W.keepIn K (.ref f_is_full) = true)
    (a_is_set_of_places : PySem.W.nsIn K mainGlobals "is_set_of_places" = some (some (.ref f_is_set_of_places)))
    (l_is_set_of_places : K.lookup f_is_set_of_places = some ⟨oc_is_set_of_places, od_is_set_of_places, .func (PySem.W.fnOf "is_set_of_places" "is_set_of_places" (defArgs s_is_set_of_places) (defBody s_is_set_of_places) (defScope s_is_set_of_places) .none kV_is_set_of_places dc_is_set_of_places pm_is_set_of_places an_is_set_of_places cd_is_set_of_places ct_is_set_of_places), sl_is_set_of_places⟩)
    (c_is_set_of_places : PySem.W.codeIn K cd_is_set_of_places "is_set_of_places" = true)
    (k_is_set_of_places : PySem.W.keepIn K (.ref f_is_set_of_places) = true)
    (a_t___init__ : PySem.W.findIn K (.ref C) "__init__" = some (some (.ref f_t___init__)))
    (i_t___init__ : PySem.W.isFn K (.ref f_t___init__) = true)
    (l_t___init__ : K.lookup f_t___init__ = some ⟨oc_t___init__, od_t___init__, .func (PySem.W.fnOf "__init__" "Tree.__init__" (defArgs s_t___init__) (defBody s_t___init__) (defScope s_t___init__) .none (.ref D_t___init__) dc_t___init__ pm_t___init__ an_t___init__ cd_t___init__ ct_t___init__), sl_t___init__⟩)
    (c_t___init__ : PySem.W.codeIn K cd_t___init__ "Tree.__init__" = true)
    (k_t___init__ : PySem.W.keepIn K (.ref f_t___init__) = true)
    {tk_t___init__ : Tok}
    (w_t___init__ : PySem.W.nsIn K D_t___init__ "arms" = some (some (.int 2 tk_t___init__)))
    (a_t_of : PySem.W.findCls K (.ref C) (.type "type") "of" = some (.get (.builtin "classmethod.__get__") (.ref po) .none (.ref C)))
    {rest_of : List Value}
    (r_t_of : PySem.W.recIn K po "classmethod" = some (.ref f_t_of :: rest_of))
    (n_t_of : PySem.W.fnIn K f_t_of = true)
    (l_t_of : K.lookup f_t_of = some ⟨oc_t_of, od_t_of, .func (PySem.W.fnOf "of" "Tree.of" (defArgs s_t_of) (defBody s_t_of) (defScope s_t_of) .none (.ref D_t_of) dc_t_of pm_t_of an_t_of cd_t_of ct_t_of), sl_t_of⟩)
    (c_t_of : PySem.W.codeIn K cd_t_of "Tree.of" = true)
    (k_t_of : PySem.W.keepIn K (.ref f_t_of) = true)
    {tk_t_of : Tok}
    (w_t_of : PySem.W.nsIn K D_t_of "arms" = some (some (.int 2 tk_t_of)))
    (a_t___len__ : PySem.W.findIn K (.ref C) "__len__" = some (some (.ref f_t___len__)))
    (i_t___len__ : PySem.W.isFn K (.ref f_t___len__) = true)
    (n_t___len__ : PySem.W.fnIn K f_t___len__ = true)
    (l_t___len__ : K.lookup f_t___len__ = some ⟨oc_t___len__, od_t___len__, .func (PySem.W.fnOf "__len__" "Tree.__len__" (defArgs s_t___len__) (defBody s_t___len__) (defScope s_t___len__) .none kV_t___len__ dc_t___len__ pm_t___len__ an_t___len__ cd_t___len__ ct_t___len__), sl_t___len__⟩)
    (c_t___len__ : PySem.W.codeIn K cd_t___len__ "Tree.__len__" = true)
    (k_t___len__ : PySem.W.keepIn K (.ref f_t___len__) = true)
    (a_t___iter__ : PySem.W.findIn K (.ref C) "__iter__" = some (some (.ref f_t___iter__)))
    (i_t___iter__ : PySem.W.isFn K (.ref f_t___iter__) = true)
    (n_t___iter__ : PySem.W.fnIn K f_t___iter__ = true)
    (l_t___iter__ : K.lookup f_t___iter__ = some ⟨oc_t___iter__, od_t___iter__, .func (PySem.W.fnOf "__iter__" "Tree.__iter__" (defArgs s_t___iter__) (defBody s_t___iter__) (defScope s_t___iter__) .none kV_t___iter__ dc_t___iter__ pm_t___iter__ an_t___iter__ cd_t___iter__ ct_t___iter__), sl_t___iter__⟩)
    (c_t___iter__ : PySem.W.codeIn K cd_t___iter__ "Tree.__iter__" = true)
    (k_t___iter__ : PySem.W.keepIn K (.ref f_t___iter__) = true)
    (a_t___getitem__ : PySem.W.findIn K (.ref C) "__getitem__" = some (some (.ref f_t___getitem__)))
    (i_t___getitem__ : PySem.W.isFn K (.ref f_t___getitem__) = true)
    (n_t___getitem__ : PySem.W.fnIn K f_t___getitem__ = true)
    (l_t___getitem__ : K.lookup f_t___getitem__ = some ⟨oc_t___getitem__, od_t___getitem__, .func (PySem.W.fnOf "__getitem__" "Tree.__getitem__" (defArgs s_t___getitem__) (defBody s_t___getitem__) (defScope s_t___getitem__) .none kV_t___getitem__ dc_t___getitem__ pm_t___getitem__ an_t___getitem__ cd_t___getitem__ ct_t___getitem__), sl_t___getitem__⟩)
    (c_t___getitem__ : PySem.W.codeIn K cd_t___getitem__ "Tree.__getitem__" = true)
    (k_t___getitem__ : PySem.W.keepIn K (.ref f_t___getitem__) = true)
    (a_t_parent : PySem.W.findIn K (.ref C) "parent" = some (some (.ref f_t_parent)))
    (i_t_parent : PySem.W.isFn K (.ref f_t_parent) = true)
    (l_t_parent : K.lookup f_t_parent = some ⟨oc_t_parent, od_t_parent, .func (PySem.W.fnOf "parent" "Tree.parent" (defArgs s_t_parent) (defBody s_t_parent) (defScope s_t_parent) .none kV_t_parent dc_t_parent pm_t_parent an_t_parent cd_t_parent ct_t_parent), sl_t_parent⟩)
    (c_t_parent : PySem.W.codeIn K cd_t_parent "Tree.parent" = true)
    (k_t_parent : PySem.W.keepIn K (.ref f_t_parent) = true)
    (a_t_way_to : PySem.W.findIn K (.ref C) "way_to" = some (some (.ref f_t_way_to)))
    (i_t_way_to : PySem.W.isFn K (.ref f_t_way_to) = true)
    (l_t_way_to : K.lookup f_t_way_to = some ⟨oc_t_way_to, od_t_way_to, .func (PySem.W.fnOf "way_to" "Tree.way_to" (defArgs s_t_way_to) (defBody s_t_way_to) (defScope s_t_way_to) .none kV_t_way_to dc_t_way_to pm_t_way_to an_t_way_to cd_t_way_to ct_t_way_to), sl_t_way_to⟩)
    (c_t_way_to : PySem.W.codeIn K cd_t_way_to "Tree.way_to" = true)
    (k_t_way_to : PySem.W.keepIn K (.ref f_t_way_to) = true)
    (a_t_subtree : PySem.W.findIn K (.ref C) "subtree" = some (some (.ref f_t_subtree)))
    (i_t_subtree : PySem.W.isFn K (.ref f_t_subtree) = true)
    (l_t_subtree : K.lookup f_t_subtree = some ⟨oc_t_subtree, od_t_subtree, .func (PySem.W.fnOf "subtree" "Tree.subtree" (defArgs s_t_subtree) (defBody s_t_subtree) (defScope s_t_subtree) .none kV_t_subtree dc_t_subtree pm_t_subtree an_t_subtree cd_t_subtree ct_t_subtree), sl_t_subtree⟩)
    (c_t_subtree : PySem.W.codeIn K cd_t_subtree "Tree.subtree" = true)
    (k_t_subtree : PySem.W.keepIn K (.ref f_t_subtree) = true)
    (a_is_heap : PySem.W.nsIn K mainGlobals "is_heap" = some (some (.ref f_is_heap)))
    (l_is_heap : K.lookup f_is_heap = some ⟨oc_is_heap, od_is_heap, .func (PySem.W.fnOf "is_heap" "is_heap" (defArgs s_is_heap) (defBody s_is_heap) (defScope s_is_heap) .none (.ref D_is_heap) dc_is_heap pm_is_heap an_is_heap cd_is_heap ct_is_heap), sl_is_heap⟩)
    (c_is_heap : PySem.W.codeIn K cd_is_heap "is_heap" = true)
    (k_is_heap : PySem.W.keepIn K (.ref f_is_heap) = true)
    {tk_is_heap : Tok}
    (w_is_heap : PySem.W.nsIn K D_is_heap "arms" = some (some (.int 2 tk_is_heap)))
    (a_faults : PySem.W.nsIn K mainGlobals "faults" = some (some (.ref f_faults)))
    (l_faults : K.lookup f_faults = some ⟨oc_faults, od_faults, .func (PySem.W.fnOf "faults" "faults" (defArgs s_faults) (defBody s_faults) (defScope s_faults) .none (.ref D_faults) dc_faults pm_faults an_faults cd_faults ct_faults), sl_faults⟩)
    (c_faults : PySem.W.codeIn K cd_faults "faults" = true)
    (k_faults : PySem.W.keepIn K (.ref f_faults) = true)
    {tk_faults : Tok}
    (w_faults : PySem.W.nsIn K D_faults "arms" = some (some (.int 2 tk_faults)))
    (a_is_full_heap : PySem.W.nsIn K mainGlobals "is_full_heap" = some (some (.ref f_is_full_heap)))
    (l_is_full_heap : K.lookup f_is_full_heap = some ⟨oc_is_full_heap, od_is_full_heap, .func (PySem.W.fnOf "is_full_heap" "is_full_heap" (defArgs s_is_full_heap) (defBody s_is_full_heap) (defScope s_is_full_heap) .none kV_is_full_heap dc_is_full_heap pm_is_full_heap an_is_full_heap cd_is_full_heap ct_is_full_heap), sl_is_full_heap⟩)
    (c_is_full_heap : PySem.W.codeIn K cd_is_full_heap "is_full_heap" = true)
    (k_is_full_heap : PySem.W.keepIn K (.ref f_is_full_heap) = true)
    (a_s___init__ : PySem.W.findIn K (.ref CS) "__init__" = some (some (.ref f_s___init__)))
    (i_s___init__ : PySem.W.isFn K (.ref f_s___init__) = true)
    (l_s___init__ : K.lookup f_s___init__ = some ⟨oc_s___init__, od_s___init__, .func (PySem.W.fnOf "__init__" "Stands.__init__" (defArgs s_s___init__) (defBody s_s___init__) (defScope s_s___init__) .none kV_s___init__ dc_s___init__ pm_s___init__ an_s___init__ cd_s___init__ ct_s___init__), sl_s___init__⟩)
    (c_s___init__ : PySem.W.codeIn K cd_s___init__ "Stands.__init__" = true)
    (k_s___init__ : PySem.W.keepIn K (.ref f_s___init__) = true)
    (a_s___eq__ : PySem.W.findIn K (.ref CS) "__eq__" = some (some (.ref f_s___eq__)))
    (i_s___eq__ : PySem.W.isFn K (.ref f_s___eq__) = true)
    (l_s___eq__ : K.lookup f_s___eq__ = some ⟨oc_s___eq__, od_s___eq__, .func (PySem.W.fnOf "__eq__" "Stands.__eq__" (defArgs s_s___eq__) (defBody s_s___eq__) (defScope s_s___eq__) .none kV_s___eq__ dc_s___eq__ pm_s___eq__ an_s___eq__ cd_s___eq__ ct_s___eq__), sl_s___eq__⟩)
    (c_s___eq__ : PySem.W.codeIn K cd_s___eq__ "Stands.__eq__" = true)
    (k_s___eq__ : PySem.W.keepIn K (.ref f_s___eq__) = true)
    (a_s_shows : PySem.W.findIn K (.ref CS) "shows" = some (some (.ref f_s_shows)))
    (i_s_shows : PySem.W.isFn K (.ref f_s_shows) = true)
    (l_s_shows : K.lookup f_s_shows = some ⟨oc_s_shows, od_s_shows, .func (PySem.W.fnOf "shows" "Stands.shows" (defArgs s_s_shows) (defBody s_s_shows) (defScope s_s_shows) .none (.ref D_s_shows) dc_s_shows pm_s_shows an_s_shows cd_s_shows ct_s_shows), sl_s_shows⟩)
    (c_s_shows : PySem.W.codeIn K cd_s_shows "Stands.shows" = true)
    (k_s_shows : PySem.W.keepIn K (.ref f_s_shows) = true)
    {tk_s_shows : Tok}
    (w_s_shows : PySem.W.nsIn K D_s_shows "arms" = some (some (.int 2 tk_s_shows)))
    (a_b___init__ : PySem.W.findIn K (.ref CB) "__init__" = some (some (.ref f_b___init__)))
    (i_b___init__ : PySem.W.isFn K (.ref f_b___init__) = true)
    (l_b___init__ : K.lookup f_b___init__ = some ⟨oc_b___init__, od_b___init__, .func (PySem.W.fnOf "__init__" "Barred.__init__" (defArgs s_b___init__) (defBody s_b___init__) (defScope s_b___init__) .none kV_b___init__ dc_b___init__ pm_b___init__ an_b___init__ cd_b___init__ ct_b___init__), sl_b___init__⟩)
    (c_b___init__ : PySem.W.codeIn K cd_b___init__ "Barred.__init__" = true)
    (k_b___init__ : PySem.W.keepIn K (.ref f_b___init__) = true)
    (a_b___eq__ : PySem.W.findIn K (.ref CB) "__eq__" = some (some (.ref f_b___eq__)))
    (i_b___eq__ : PySem.W.isFn K (.ref f_b___eq__) = true)
    (l_b___eq__ : K.lookup f_b___eq__ = some ⟨oc_b___eq__, od_b___eq__, .func (PySem.W.fnOf "__eq__" "Barred.__eq__" (defArgs s_b___eq__) (defBody s_b___eq__) (defScope s_b___eq__) .none kV_b___eq__ dc_b___eq__ pm_b___eq__ an_b___eq__ cd_b___eq__ ct_b___eq__), sl_b___eq__⟩)
    (c_b___eq__ : PySem.W.codeIn K cd_b___eq__ "Barred.__eq__" = true)
    (k_b___eq__ : PySem.W.keepIn K (.ref f_b___eq__) = true)
    (a_b_shows : PySem.W.findIn K (.ref CB) "shows" = some (some (.ref f_b_shows)))
    (i_b_shows : PySem.W.isFn K (.ref f_b_shows) = true)
    (l_b_shows : K.lookup f_b_shows = some ⟨oc_b_shows, od_b_shows, .func (PySem.W.fnOf "shows" "Barred.shows" (defArgs s_b_shows) (defBody s_b_shows) (defScope s_b_shows) .none (.ref D_b_shows) dc_b_shows pm_b_shows an_b_shows cd_b_shows ct_b_shows), sl_b_shows⟩)
    (c_b_shows : PySem.W.codeIn K cd_b_shows "Barred.shows" = true)
    (k_b_shows : PySem.W.keepIn K (.ref f_b_shows) = true)
    {tk_b_shows : Tok}
    (w_b_shows : PySem.W.nsIn K D_b_shows "arms" = some (some (.int 2 tk_b_shows)))
    (a_stand : PySem.W.nsIn K mainGlobals "stand" = some (some (.ref f_stand)))
    (l_stand : K.lookup f_stand = some ⟨oc_stand, od_stand, .func (PySem.W.fnOf "stand" "stand" (defArgs s_stand) (defBody s_stand) (defScope s_stand) .none (.ref D_stand) dc_stand pm_stand an_stand cd_stand ct_stand), sl_stand⟩)
    (c_stand : PySem.W.codeIn K cd_stand "stand" = true)
    (k_stand : PySem.W.keepIn K (.ref f_stand) = true)
    {tk_stand : Tok}
    (w_stand : PySem.W.nsIn K D_stand "arms" = some (some (.int 2 tk_stand)))
    (a_tree_of_standing : PySem.W.nsIn K mainGlobals "tree_of_standing" = some (some (.ref f_tree_of_standing)))
    (l_tree_of_standing : K.lookup f_tree_of_standing = some ⟨oc_tree_of_standing, od_tree_of_standing, .func (PySem.W.fnOf "tree_of_standing" "tree_of_standing" (defArgs s_tree_of_standing) (defBody s_tree_of_standing) (defScope s_tree_of_standing) .none kV_tree_of_standing dc_tree_of_standing pm_tree_of_standing an_tree_of_standing cd_tree_of_standing ct_tree_of_standing), sl_tree_of_standing⟩)
    (c_tree_of_standing : PySem.W.codeIn K cd_tree_of_standing "tree_of_standing" = true)
    (k_tree_of_standing : PySem.W.keepIn K (.ref f_tree_of_standing) = true)
    (a_places_above : PySem.W.nsIn K mainGlobals "places_above" = some (some (.ref f_places_above)))
    (l_places_above : K.lookup f_places_above = some ⟨oc_places_above, od_places_above, .func (PySem.W.fnOf "places_above" "places_above" (defArgs s_places_above) (defBody s_places_above) (defScope s_places_above) .none kV_places_above dc_places_above pm_places_above an_places_above cd_places_above ct_places_above), sl_places_above⟩)
    (c_places_above : PySem.W.codeIn K cd_places_above "places_above" = true)
    (k_places_above : PySem.W.keepIn K (.ref f_places_above) = true)
    (a_places_below : PySem.W.nsIn K mainGlobals "places_below" = some (some (.ref f_places_below)))
    (l_places_below : K.lookup f_places_below = some ⟨oc_places_below, od_places_below, .func (PySem.W.fnOf "places_below" "places_below" (defArgs s_places_below) (defBody s_places_below) (defScope s_places_below) .none kV_places_below dc_places_below pm_places_below an_places_below cd_places_below ct_places_below), sl_places_below⟩)
    (c_places_below : PySem.W.codeIn K cd_places_below "places_below" = true)
    (k_places_below : PySem.W.keepIn K (.ref f_places_below) = true)
    (a_are_among : PySem.W.nsIn K mainGlobals "are_among" = some (some (.ref f_are_among)))
    (l_are_among : K.lookup f_are_among = some ⟨oc_are_among, od_are_among, .func (PySem.W.fnOf "are_among" "are_among" (defArgs s_are_among) (defBody s_are_among) (defScope s_are_among) .none kV_are_among dc_are_among pm_are_among an_are_among cd_are_among ct_are_among), sl_are_among⟩)
    (c_are_among : PySem.W.codeIn K cd_are_among "are_among" = true)
    (k_are_among : PySem.W.keepIn K (.ref f_are_among) = true)
    (a_row_by_order : PySem.W.nsIn K mainGlobals "row_by_order" = some (some (.ref f_row_by_order)))
    (l_row_by_order : K.lookup f_row_by_order = some ⟨oc_row_by_order, od_row_by_order, .func (PySem.W.fnOf "row_by_order" "row_by_order" (defArgs s_row_by_order) (defBody s_row_by_order) (defScope s_row_by_order) .none kV_row_by_order dc_row_by_order pm_row_by_order an_row_by_order cd_row_by_order ct_row_by_order), sl_row_by_order⟩)
    (c_row_by_order : PySem.W.codeIn K cd_row_by_order "row_by_order" = true)
    (k_row_by_order : PySem.W.keepIn K (.ref f_row_by_order) = true)
    (a__law_number : PySem.W.nsIn K mainGlobals "_law_number" = some (some (.ref f__law_number)))
    (l__law_number : K.lookup f__law_number = some ⟨oc__law_number, od__law_number, .func (PySem.W.fnOf "_law_number" "_law_number" (defArgs s__law_number) (defBody s__law_number) (defScope s__law_number) .none kV__law_number dc__law_number pm__law_number an__law_number cd__law_number ct__law_number), sl__law_number⟩)
    (c__law_number : PySem.W.codeIn K cd__law_number "_law_number" = true)
    (k__law_number : PySem.W.keepIn K (.ref f__law_number) = true)
    (a__law_above : PySem.W.nsIn K mainGlobals "_law_above" = some (some (.ref f__law_above)))
    (l__law_above : K.lookup f__law_above = some ⟨oc__law_above, od__law_above, .func (PySem.W.fnOf "_law_above" "_law_above" (defArgs s__law_above) (defBody s__law_above) (defScope s__law_above) .none kV__law_above dc__law_above pm__law_above an__law_above cd__law_above ct__law_above), sl__law_above⟩)
    (c__law_above : PySem.W.codeIn K cd__law_above "_law_above" = true)
    (k__law_above : PySem.W.keepIn K (.ref f__law_above) = true)
    (a__law_below : PySem.W.nsIn K mainGlobals "_law_below" = some (some (.ref f__law_below)))
    (l__law_below : K.lookup f__law_below = some ⟨oc__law_below, od__law_below, .func (PySem.W.fnOf "_law_below" "_law_below" (defArgs s__law_below) (defBody s__law_below) (defScope s__law_below) .none kV__law_below dc__law_below pm__law_below an__law_below cd__law_below ct__law_below), sl__law_below⟩)
    (c__law_below : PySem.W.codeIn K cd__law_below "_law_below" = true)
    (k__law_below : PySem.W.keepIn K (.ref f__law_below) = true)
    (a__law_is_full : PySem.W.nsIn K mainGlobals "_law_is_full" = some (some (.ref f__law_is_full)))
    (l__law_is_full : K.lookup f__law_is_full = some ⟨oc__law_is_full, od__law_is_full, .func (PySem.W.fnOf "_law_is_full" "_law_is_full" (defArgs s__law_is_full) (defBody s__law_is_full) (defScope s__law_is_full) .none kV__law_is_full dc__law_is_full pm__law_is_full an__law_is_full cd__law_is_full ct__law_is_full), sl__law_is_full⟩)
    (c__law_is_full : PySem.W.codeIn K cd__law_is_full "_law_is_full" = true)
    (k__law_is_full : PySem.W.keepIn K (.ref f__law_is_full) = true)
    (a__law_is_part : PySem.W.nsIn K mainGlobals "_law_is_part" = some (some (.ref f__law_is_part)))
    (l__law_is_part : K.lookup f__law_is_part = some ⟨oc__law_is_part, od__law_is_part, .func (PySem.W.fnOf "_law_is_part" "_law_is_part" (defArgs s__law_is_part) (defBody s__law_is_part) (defScope s__law_is_part) .none kV__law_is_part dc__law_is_part pm__law_is_part an__law_is_part cd__law_is_part ct__law_is_part), sl__law_is_part⟩)
    (c__law_is_part : PySem.W.codeIn K cd__law_is_part "_law_is_part" = true)
    (k__law_is_part : PySem.W.keepIn K (.ref f__law_is_part) = true)
    (a__law_rows : PySem.W.nsIn K mainGlobals "_law_rows" = some (some (.ref f__law_rows)))
    (l__law_rows : K.lookup f__law_rows = some ⟨oc__law_rows, od__law_rows, .func (PySem.W.fnOf "_law_rows" "_law_rows" (defArgs s__law_rows) (defBody s__law_rows) (defScope s__law_rows) .none kV__law_rows dc__law_rows pm__law_rows an__law_rows cd__law_rows ct__law_rows), sl__law_rows⟩)
    (c__law_rows : PySem.W.codeIn K cd__law_rows "_law_rows" = true)
    (k__law_rows : PySem.W.keepIn K (.ref f__law_rows) = true)
    (a__law_choices : PySem.W.nsIn K mainGlobals "_law_choices" = some (some (.ref f__law_choices)))
    (l__law_choices : K.lookup f__law_choices = some ⟨oc__law_choices, od__law_choices, .func (PySem.W.fnOf "_law_choices" "_law_choices" (defArgs s__law_choices) (defBody s__law_choices) (defScope s__law_choices) .none kV__law_choices dc__law_choices pm__law_choices an__law_choices cd__law_choices ct__law_choices), sl__law_choices⟩)
    (c__law_choices : PySem.W.codeIn K cd__law_choices "_law_choices" = true)
    (k__law_choices : PySem.W.keepIn K (.ref f__law_choices) = true)
    (a__law_parts_right : PySem.W.nsIn K mainGlobals "_law_parts_right" = some (some (.ref f__law_parts_right)))
    (l__law_parts_right : K.lookup f__law_parts_right = some ⟨oc__law_parts_right, od__law_parts_right, .func (PySem.W.fnOf "_law_parts_right" "_law_parts_right" (defArgs s__law_parts_right) (defBody s__law_parts_right) (defScope s__law_parts_right) .none kV__law_parts_right dc__law_parts_right pm__law_parts_right an__law_parts_right cd__law_parts_right ct__law_parts_right), sl__law_parts_right⟩)
    (c__law_parts_right : PySem.W.codeIn K cd__law_parts_right "_law_parts_right" = true)
    (k__law_parts_right : PySem.W.keepIn K (.ref f__law_parts_right) = true)
    (a_law : PySem.W.nsIn K mainGlobals "law" = some (some (.ref f_law)))
    (l_law : K.lookup f_law = some ⟨oc_law, od_law, .func (PySem.W.fnOf "law" "law" (defArgs s_law) (defBody s_law) (defScope s_law) .none kV_law dc_law pm_law an_law cd_law ct_law), sl_law⟩)
    (c_law : PySem.W.codeIn K cd_law "law" = true)
    (k_law : PySem.W.keepIn K (.ref f_law) = true)
    {tc_MOST_ARMS : Tok}
    (q_MOST_ARMS : PySem.W.nsIn K mainGlobals "MOST_ARMS" = some (some (.int 4 tc_MOST_ARMS)))
    {tc_MOST_PLACES : Tok}
    (q_MOST_PLACES : PySem.W.nsIn K mainGlobals "MOST_PLACES" = some (some (.int 12 tc_MOST_PLACES)))
    {tc_GREATEST_KEY : Tok}
    (q_GREATEST_KEY : PySem.W.nsIn K mainGlobals "GREATEST_KEY" = some (some (.int 1000000000 tc_GREATEST_KEY)))
    (z_isinstance : PySem.W.nsIn K mainGlobals "isinstance" = some none)
    (z_int : PySem.W.nsIn K mainGlobals "int" = some none)
    (z_bool : PySem.W.nsIn K mainGlobals "bool" = some none)
    (z_len : PySem.W.nsIn K mainGlobals "len" = some none)
    (z_tuple : PySem.W.nsIn K mainGlobals "tuple" = some none)
    (z_list : PySem.W.nsIn K mainGlobals "list" = some none)
    (z_range : PySem.W.nsIn K mainGlobals "range" = some none)
    (z_enumerate : PySem.W.nsIn K mainGlobals "enumerate" = some none)
    (z_iter : PySem.W.nsIn K mainGlobals "iter" = some none)
    (z_sum : PySem.W.nsIn K mainGlobals "sum" = some none)
    (z_all : PySem.W.nsIn K mainGlobals "all" = some none)
    (z_any : PySem.W.nsIn K mainGlobals "any" = some none)
    (z_sorted : PySem.W.nsIn K mainGlobals "sorted" = some none)
    (z_set : PySem.W.nsIn K mainGlobals "set" = some none)
    (z_zip : PySem.W.nsIn K mainGlobals "zip" = some none)
    (pg : PySem.W.plainGet K C Str.empty = true)
    (hd : PySem.W.hasDictIn K C = true)
    (po_ : PySem.W.plainOver K C = true)
    (sa : PySem.W.findIn K (.ref C) "__setattr__" = some (some (.builtin "object.__setattr__")))
    (na_nMany : PySem.W.findIn K (.ref C) "many" = some none)
    (na_nArms : PySem.W.findIn K (.ref C) "arms" = some none)
    (na_nPl : PySem.W.findIn K (.ref C) "_places" = some none)
    (mk : PySem.W.makesIn K C = true)
    (kc : PySem.W.keepIn K (.ref C) = true)
    (rd : PySem.W.readsIn K C (.type "type") = true)
    (ga : PySem.W.specialIn K (.ref C) "__getattribute__" = some (some (.builtin "type.__getattribute__")))
    (pgS : PySem.W.plainGet K CS Str.empty = true)
    (hdS : PySem.W.hasDictIn K CS = true)
    (po_S : PySem.W.plainOver K CS = true)
    (saS : PySem.W.findIn K (.ref CS) "__setattr__" = some (some (.builtin "object.__setattr__")))
    (na_sRow : PySem.W.findIn K (.ref CS) "row" = some none)
    (mkS : PySem.W.makesIn K CS = true)
    (kcS : PySem.W.keepIn K (.ref CS) = true)
    (eneS : PySem.W.findIn K (.ref CS) "__ne__" = some (some (.builtin "object.__ne__")))
    (eobS : PySem.W.subIn K (.ref CS) (.type "object") = some true)
    (eniS : PySem.W.subIn K (.type "int") (.ref CS) = some false)
    (entS : PySem.W.subIn K (.type "tuple") (.ref CS) = some false)
    (kaS : PySem.W.findIn K (.ref CS) "__class__" = some (some (.builtin "object.__class__")))
    (knS : PySem.W.specialIn K (.builtin "object.__class__") "__get__" = some (some (.builtin "getset_descriptor.__get__")))
    (ktkS : PySem.W.takesIn K (.builtin "object.__class__") = some true)
    (kmS : PySem.W.mroIn K CS (.type "object") = some true)
    (kclS : PySem.W.isClsIn K CS = true)
    (ktyS : PySem.W.typeIn K (.ref CS) = some (.type "type"))
    (ensS_Barred : PySem.W.subIn K (.ref CB) (.ref CS) = some false)
    (nesS_Barred : (CB == CS) = false)
    (pgB : PySem.W.plainGet K CB Str.empty = true)
    (hdB : PySem.W.hasDictIn K CB = true)
    (po_B : PySem.W.plainOver K CB = true)
    (saB : PySem.W.findIn K (.ref CB) "__setattr__" = some (some (.builtin "object.__setattr__")))
    (na_bWord : PySem.W.findIn K (.ref CB) "word" = some none)
    (na_bPl : PySem.W.findIn K (.ref CB) "places" = some none)
    (mkB : PySem.W.makesIn K CB = true)
    (kcB : PySem.W.keepIn K (.ref CB) = true)
    (eneB : PySem.W.findIn K (.ref CB) "__ne__" = some (some (.builtin "object.__ne__")))
    (eobB : PySem.W.subIn K (.ref CB) (.type "object") = some true)
    (eniB : PySem.W.subIn K (.type "int") (.ref CB) = some false)
    (entB : PySem.W.subIn K (.type "tuple") (.ref CB) = some false)
    (kaB : PySem.W.findIn K (.ref CB) "__class__" = some (some (.builtin "object.__class__")))
    (knB : PySem.W.specialIn K (.builtin "object.__class__") "__get__" = some (some (.builtin "getset_descriptor.__get__")))
    (ktkB : PySem.W.takesIn K (.builtin "object.__class__") = some true)
    (kmB : PySem.W.mroIn K CB (.type "object") = some true)
    (kclB : PySem.W.isClsIn K CB = true)
    (ktyB : PySem.W.typeIn K (.ref CB) = some (.type "type"))
    (ensB_Stands : PySem.W.subIn K (.ref CS) (.ref CB) = some false)
    (nesB_Stands : (CS == CB) = false)
    : ∃ fd : FuncData, (∀ (s : Shared) (v : Value), BindsTo s fd ⟨[v], []⟩ [("script", v)]) ∧ ∀ base : Heap, K.In base → base.Ns mainGlobals mg → FnOk l.prog w K mg base CX0 13 fa fd ["script"] (spLaw K) := by
  have e := hfa.symm.trans (PySem.W.mg_of X G a_law)
  cases e
  let A : Ad := { f_is_integer := f_is_integer, d_is_integer := (PySem.W.fnOf "is_integer" "is_integer" (defArgs s_is_integer) (defBody s_is_integer) (defScope s_is_integer) .none kV_is_integer dc_is_integer pm_is_integer an_is_integer cd_is_integer ct_is_integer), f_is_integer_from := f_is_integer_from, d_is_integer_from := (PySem.W.fnOf "is_integer_from" "is_integer_from" (defArgs s_is_integer_from) (defBody s_is_integer_from) (defScope s_is_integer_from) .none kV_is_integer_from dc_is_integer_from pm_is_integer_from an_is_integer_from cd_is_integer_from ct_is_integer_from), f_is_key := f_is_key, d_is_key := (PySem.W.fnOf "is_key" "is_key" (defArgs s_is_key) (defBody s_is_key) (defScope s_is_key) .none kV_is_key dc_is_key pm_is_key an_is_key cd_is_key ct_is_key), f_check_arms := f_check_arms, d_check_arms := (PySem.W.fnOf "check_arms" "check_arms" (defArgs s_check_arms) (defBody s_check_arms) (defScope s_check_arms) .none kV_check_arms dc_check_arms pm_check_arms an_check_arms cd_check_arms ct_check_arms), f_check_many := f_check_many, d_check_many := (PySem.W.fnOf "check_many" "check_many" (defArgs s_check_many) (defBody s_check_many) (defScope s_check_many) .none kV_check_many dc_check_many pm_check_many an_check_many cd_check_many ct_check_many), f_check_place := f_check_place, d_check_place := (PySem.W.fnOf "check_place" "check_place" (defArgs s_check_place) (defBody s_check_place) (defScope s_check_place) .none kV_check_place dc_check_place pm_check_place an_check_place cd_check_place ct_check_place), f_row_of := f_row_of, d_row_of := (PySem.W.fnOf "row_of" "row_of" (defArgs s_row_of) (defBody s_row_of) (defScope s_row_of) .none kV_row_of dc_row_of pm_row_of an_row_of cd_row_of ct_row_of), f_is_full := f_is_full, d_is_full := (PySem.W.fnOf "is_full" "is_full" (defArgs s_is_full) (defBody s_is_full) (defScope s_is_full) .none kV_is_full dc_is_full pm_is_full an_is_full cd_is_full ct_is_full), f_is_set_of_places := f_is_set_of_places, d_is_set_of_places := (PySem.W.fnOf "is_set_of_places" "is_set_of_places" (defArgs s_is_set_of_places) (defBody s_is_set_of_places) (defScope s_is_set_of_places) .none kV_is_set_of_places dc_is_set_of_places pm_is_set_of_places an_is_set_of_places cd_is_set_of_places ct_is_set_of_places), f_t___init__ := f_t___init__, d_t___init__ := (PySem.W.fnOf "__init__" "Tree.__init__" (defArgs s_t___init__) (defBody s_t___init__) (defScope s_t___init__) .none (.ref D_t___init__) dc_t___init__ pm_t___init__ an_t___init__ cd_t___init__ ct_t___init__), f_t_of := f_t_of, d_t_of := (PySem.W.fnOf "of" "Tree.of" (defArgs s_t_of) (defBody s_t_of) (defScope s_t_of) .none (.ref D_t_of) dc_t_of pm_t_of an_t_of cd_t_of ct_t_of), f_t___len__ := f_t___len__, d_t___len__ := (PySem.W.fnOf "__len__" "Tree.__len__" (defArgs s_t___len__) (defBody s_t___len__) (defScope s_t___len__) .none kV_t___len__ dc_t___len__ pm_t___len__ an_t___len__ cd_t___len__ ct_t___len__), f_t___iter__ := f_t___iter__, d_t___iter__ := (PySem.W.fnOf "__iter__" "Tree.__iter__" (defArgs s_t___iter__) (defBody s_t___iter__) (defScope s_t___iter__) .none kV_t___iter__ dc_t___iter__ pm_t___iter__ an_t___iter__ cd_t___iter__ ct_t___iter__), f_t___getitem__ := f_t___getitem__, d_t___getitem__ := (PySem.W.fnOf "__getitem__" "Tree.__getitem__" (defArgs s_t___getitem__) (defBody s_t___getitem__) (defScope s_t___getitem__) .none kV_t___getitem__ dc_t___getitem__ pm_t___getitem__ an_t___getitem__ cd_t___getitem__ ct_t___getitem__), f_t_parent := f_t_parent, d_t_parent := (PySem.W.fnOf "parent" "Tree.parent" (defArgs s_t_parent) (defBody s_t_parent) (defScope s_t_parent) .none kV_t_parent dc_t_parent pm_t_parent an_t_parent cd_t_parent ct_t_parent), f_t_way_to := f_t_way_to, d_t_way_to := (PySem.W.fnOf "way_to" "Tree.way_to" (defArgs s_t_way_to) (defBody s_t_way_to) (defScope s_t_way_to) .none kV_t_way_to dc_t_way_to pm_t_way_to an_t_way_to cd_t_way_to ct_t_way_to), f_t_subtree := f_t_subtree, d_t_subtree := (PySem.W.fnOf "subtree" "Tree.subtree" (defArgs s_t_subtree) (defBody s_t_subtree) (defScope s_t_subtree) .none kV_t_subtree dc_t_subtree pm_t_subtree an_t_subtree cd_t_subtree ct_t_subtree), f_is_heap := f_is_heap, d_is_heap := (PySem.W.fnOf "is_heap" "is_heap" (defArgs s_is_heap) (defBody s_is_heap) (defScope s_is_heap) .none (.ref D_is_heap) dc_is_heap pm_is_heap an_is_heap cd_is_heap ct_is_heap), f_faults := f_faults, d_faults := (PySem.W.fnOf "faults" "faults" (defArgs s_faults) (defBody s_faults) (defScope s_faults) .none (.ref D_faults) dc_faults pm_faults an_faults cd_faults ct_faults), f_is_full_heap := f_is_full_heap, d_is_full_heap := (PySem.W.fnOf "is_full_heap" "is_full_heap" (defArgs s_is_full_heap) (defBody s_is_full_heap) (defScope s_is_full_heap) .none kV_is_full_heap dc_is_full_heap pm_is_full_heap an_is_full_heap cd_is_full_heap ct_is_full_heap), f_s___init__ := f_s___init__, d_s___init__ := (PySem.W.fnOf "__init__" "Stands.__init__" (defArgs s_s___init__) (defBody s_s___init__) (defScope s_s___init__) .none kV_s___init__ dc_s___init__ pm_s___init__ an_s___init__ cd_s___init__ ct_s___init__), f_s___eq__ := f_s___eq__, d_s___eq__ := (PySem.W.fnOf "__eq__" "Stands.__eq__" (defArgs s_s___eq__) (defBody s_s___eq__) (defScope s_s___eq__) .none kV_s___eq__ dc_s___eq__ pm_s___eq__ an_s___eq__ cd_s___eq__ ct_s___eq__), f_s_shows := f_s_shows, d_s_shows := (PySem.W.fnOf "shows" "Stands.shows" (defArgs s_s_shows) (defBody s_s_shows) (defScope s_s_shows) .none (.ref D_s_shows) dc_s_shows pm_s_shows an_s_shows cd_s_shows ct_s_shows), f_b___init__ := f_b___init__, d_b___init__ := (PySem.W.fnOf "__init__" "Barred.__init__" (defArgs s_b___init__) (defBody s_b___init__) (defScope s_b___init__) .none kV_b___init__ dc_b___init__ pm_b___init__ an_b___init__ cd_b___init__ ct_b___init__), f_b___eq__ := f_b___eq__, d_b___eq__ := (PySem.W.fnOf "__eq__" "Barred.__eq__" (defArgs s_b___eq__) (defBody s_b___eq__) (defScope s_b___eq__) .none kV_b___eq__ dc_b___eq__ pm_b___eq__ an_b___eq__ cd_b___eq__ ct_b___eq__), f_b_shows := f_b_shows, d_b_shows := (PySem.W.fnOf "shows" "Barred.shows" (defArgs s_b_shows) (defBody s_b_shows) (defScope s_b_shows) .none (.ref D_b_shows) dc_b_shows pm_b_shows an_b_shows cd_b_shows ct_b_shows), f_stand := f_stand, d_stand := (PySem.W.fnOf "stand" "stand" (defArgs s_stand) (defBody s_stand) (defScope s_stand) .none (.ref D_stand) dc_stand pm_stand an_stand cd_stand ct_stand), f_tree_of_standing := f_tree_of_standing, d_tree_of_standing := (PySem.W.fnOf "tree_of_standing" "tree_of_standing" (defArgs s_tree_of_standing) (defBody s_tree_of_standing) (defScope s_tree_of_standing) .none kV_tree_of_standing dc_tree_of_standing pm_tree_of_standing an_tree_of_standing cd_tree_of_standing ct_tree_of_standing), f_places_above := f_places_above, d_places_above := (PySem.W.fnOf "places_above" "places_above" (defArgs s_places_above) (defBody s_places_above) (defScope s_places_above) .none kV_places_above dc_places_above pm_places_above an_places_above cd_places_above ct_places_above), f_places_below := f_places_below, d_places_below := (PySem.W.fnOf "places_below" "places_below" (defArgs s_places_below) (defBody s_places_below) (defScope s_places_below) .none kV_places_below dc_places_below pm_places_below an_places_below cd_places_below ct_places_below), f_are_among := f_are_among, d_are_among := (PySem.W.fnOf "are_among" "are_among" (defArgs s_are_among) (defBody s_are_among) (defScope s_are_among) .none kV_are_among dc_are_among pm_are_among an_are_among cd_are_among ct_are_among), f_row_by_order := f_row_by_order, d_row_by_order := (PySem.W.fnOf "row_by_order" "row_by_order" (defArgs s_row_by_order) (defBody s_row_by_order) (defScope s_row_by_order) .none kV_row_by_order dc_row_by_order pm_row_by_order an_row_by_order cd_row_by_order ct_row_by_order), f__law_number := f__law_number, d__law_number := (PySem.W.fnOf "_law_number" "_law_number" (defArgs s__law_number) (defBody s__law_number) (defScope s__law_number) .none kV__law_number dc__law_number pm__law_number an__law_number cd__law_number ct__law_number), f__law_above := f__law_above, d__law_above := (PySem.W.fnOf "_law_above" "_law_above" (defArgs s__law_above) (defBody s__law_above) (defScope s__law_above) .none kV__law_above dc__law_above pm__law_above an__law_above cd__law_above ct__law_above), f__law_below := f__law_below, d__law_below := (PySem.W.fnOf "_law_below" "_law_below" (defArgs s__law_below) (defBody s__law_below) (defScope s__law_below) .none kV__law_below dc__law_below pm__law_below an__law_below cd__law_below ct__law_below), f__law_is_full := f__law_is_full, d__law_is_full := (PySem.W.fnOf "_law_is_full" "_law_is_full" (defArgs s__law_is_full) (defBody s__law_is_full) (defScope s__law_is_full) .none kV__law_is_full dc__law_is_full pm__law_is_full an__law_is_full cd__law_is_full ct__law_is_full), f__law_is_part := f__law_is_part, d__law_is_part := (PySem.W.fnOf "_law_is_part" "_law_is_part" (defArgs s__law_is_part) (defBody s__law_is_part) (defScope s__law_is_part) .none kV__law_is_part dc__law_is_part pm__law_is_part an__law_is_part cd__law_is_part ct__law_is_part), f__law_rows := f__law_rows, d__law_rows := (PySem.W.fnOf "_law_rows" "_law_rows" (defArgs s__law_rows) (defBody s__law_rows) (defScope s__law_rows) .none kV__law_rows dc__law_rows pm__law_rows an__law_rows cd__law_rows ct__law_rows), f__law_choices := f__law_choices, d__law_choices := (PySem.W.fnOf "_law_choices" "_law_choices" (defArgs s__law_choices) (defBody s__law_choices) (defScope s__law_choices) .none kV__law_choices dc__law_choices pm__law_choices an__law_choices cd__law_choices ct__law_choices), f__law_parts_right := f__law_parts_right, d__law_parts_right := (PySem.W.fnOf "_law_parts_right" "_law_parts_right" (defArgs s__law_parts_right) (defBody s__law_parts_right) (defScope s__law_parts_right) .none kV__law_parts_right dc__law_parts_right pm__law_parts_right an__law_parts_right cd__law_parts_right ct__law_parts_right), f_law := fa, d_law := (PySem.W.fnOf "law" "law" (defArgs s_law) (defBody s_law) (defScope s_law) .none kV_law dc_law pm_law an_law cd_law ct_law), C := C, CS := CS, CB := CB, po := po }
  have T : Tx K mg A := {
    F_is_integer := (fun_mk (st := s_is_integer) l_is_integer c_is_integer k_is_integer)
    m_is_integer := PySem.W.mg_of X G a_is_integer
    F_is_integer_from := (fun_mk (st := s_is_integer_from) l_is_integer_from c_is_integer_from k_is_integer_from)
    m_is_integer_from := PySem.W.mg_of X G a_is_integer_from
    F_is_key := (fun_mk (st := s_is_key) l_is_key c_is_key k_is_key)
    m_is_key := PySem.W.mg_of X G a_is_key
    F_check_arms := (fun_mk (st := s_check_arms) l_check_arms c_check_arms k_check_arms)
    m_check_arms := PySem.W.mg_of X G a_check_arms
    F_check_many := (fun_mk (st := s_check_many) l_check_many c_check_many k_check_many)
    m_check_many := PySem.W.mg_of X G a_check_many
    F_check_place := (fun_mk (st := s_check_place) l_check_place c_check_place k_check_place)
    m_check_place := PySem.W.mg_of X G a_check_place
    F_row_of := (fun_mk (st := s_row_of) l_row_of c_row_of k_row_of)
    m_row_of := PySem.W.mg_of X G a_row_of
    F_is_full := (fun_mk (st := s_is_full) l_is_full c_is_full k_is_full)
    m_is_full := PySem.W.mg_of X G a_is_full
    F_is_set_of_places := (fun_mk (st := s_is_set_of_places) l_is_set_of_places c_is_set_of_places k_is_set_of_places)
    m_is_set_of_places := PySem.W.mg_of X G a_is_set_of_places
    F_t___init__ := ⟨⟨_, _, _, _, _, _, _, _, _, _, rfl, l_t___init__, c_t___init__, .inl ⟨rfl, rfl⟩, .inr ⟨_, rfl, fun q hq => by rw [List.mem_singleton.mp hq]; exact ⟨_, w_t___init__, relI _ _⟩⟩⟩, k_t___init__⟩
    F_t_of := ⟨⟨_, _, _, _, _, _, _, _, _, _, rfl, l_t_of, c_t_of, .inl ⟨rfl, rfl⟩, .inr ⟨_, rfl, fun q hq => by rw [List.mem_singleton.mp hq]; exact ⟨_, w_t_of, relI _ _⟩⟩⟩, k_t_of⟩
    F_t___len__ := (fun_mk (st := s_t___len__) l_t___len__ c_t___len__ k_t___len__)
    D_t___len__ := ⟨a_t___len__, i_t___len__, n_t___len__⟩
    F_t___iter__ := (fun_mk (st := s_t___iter__) l_t___iter__ c_t___iter__ k_t___iter__)
    D_t___iter__ := ⟨a_t___iter__, i_t___iter__, n_t___iter__⟩
    F_t___getitem__ := (fun_mk (st := s_t___getitem__) l_t___getitem__ c_t___getitem__ k_t___getitem__)
    D_t___getitem__ := ⟨a_t___getitem__, i_t___getitem__, n_t___getitem__⟩
    F_t_parent := (fun_mk (st := s_t_parent) l_t_parent c_t_parent k_t_parent)
    M_t_parent := ⟨a_t_parent, i_t_parent, k_t_parent⟩
    F_t_way_to := (fun_mk (st := s_t_way_to) l_t_way_to c_t_way_to k_t_way_to)
    M_t_way_to := ⟨a_t_way_to, i_t_way_to, k_t_way_to⟩
    F_t_subtree := (fun_mk (st := s_t_subtree) l_t_subtree c_t_subtree k_t_subtree)
    M_t_subtree := ⟨a_t_subtree, i_t_subtree, k_t_subtree⟩
    F_is_heap := ⟨⟨_, _, _, _, _, _, _, _, _, _, rfl, l_is_heap, c_is_heap, .inl ⟨rfl, rfl⟩, .inr ⟨_, rfl, fun q hq => by rw [List.mem_singleton.mp hq]; exact ⟨_, w_is_heap, relI _ _⟩⟩⟩, k_is_heap⟩
    m_is_heap := PySem.W.mg_of X G a_is_heap
    F_faults := ⟨⟨_, _, _, _, _, _, _, _, _, _, rfl, l_faults, c_faults, .inl ⟨rfl, rfl⟩, .inr ⟨_, rfl, fun q hq => by rw [List.mem_singleton.mp hq]; exact ⟨_, w_faults, relI _ _⟩⟩⟩, k_faults⟩
    m_faults := PySem.W.mg_of X G a_faults
    F_is_full_heap := (fun_mk (st := s_is_full_heap) l_is_full_heap c_is_full_heap k_is_full_heap)
    m_is_full_heap := PySem.W.mg_of X G a_is_full_heap
    F_s___init__ := (fun_mk (st := s_s___init__) l_s___init__ c_s___init__ k_s___init__)
    F_s___eq__ := (fun_mk (st := s_s___eq__) l_s___eq__ c_s___eq__ k_s___eq__)
    F_s_shows := ⟨⟨_, _, _, _, _, _, _, _, _, _, rfl, l_s_shows, c_s_shows, .inl ⟨rfl, rfl⟩, .inr ⟨_, rfl, fun q hq => by rw [List.mem_singleton.mp hq]; exact ⟨_, w_s_shows, relI _ _⟩⟩⟩, k_s_shows⟩
    M_s_shows := ⟨a_s_shows, i_s_shows, k_s_shows⟩
    F_b___init__ := (fun_mk (st := s_b___init__) l_b___init__ c_b___init__ k_b___init__)
    F_b___eq__ := (fun_mk (st := s_b___eq__) l_b___eq__ c_b___eq__ k_b___eq__)
    F_b_shows := ⟨⟨_, _, _, _, _, _, _, _, _, _, rfl, l_b_shows, c_b_shows, .inl ⟨rfl, rfl⟩, .inr ⟨_, rfl, fun q hq => by rw [List.mem_singleton.mp hq]; exact ⟨_, w_b_shows, relI _ _⟩⟩⟩, k_b_shows⟩
    M_b_shows := ⟨a_b_shows, i_b_shows, k_b_shows⟩
    F_stand := ⟨⟨_, _, _, _, _, _, _, _, _, _, rfl, l_stand, c_stand, .inl ⟨rfl, rfl⟩, .inr ⟨_, rfl, fun q hq => by rw [List.mem_singleton.mp hq]; exact ⟨_, w_stand, relI _ _⟩⟩⟩, k_stand⟩
    m_stand := PySem.W.mg_of X G a_stand
    F_tree_of_standing := (fun_mk (st := s_tree_of_standing) l_tree_of_standing c_tree_of_standing k_tree_of_standing)
    m_tree_of_standing := PySem.W.mg_of X G a_tree_of_standing
    F_places_above := (fun_mk (st := s_places_above) l_places_above c_places_above k_places_above)
    m_places_above := PySem.W.mg_of X G a_places_above
    F_places_below := (fun_mk (st := s_places_below) l_places_below c_places_below k_places_below)
    m_places_below := PySem.W.mg_of X G a_places_below
    F_are_among := (fun_mk (st := s_are_among) l_are_among c_are_among k_are_among)
    m_are_among := PySem.W.mg_of X G a_are_among
    F_row_by_order := (fun_mk (st := s_row_by_order) l_row_by_order c_row_by_order k_row_by_order)
    m_row_by_order := PySem.W.mg_of X G a_row_by_order
    F__law_number := (fun_mk (st := s__law_number) l__law_number c__law_number k__law_number)
    m__law_number := PySem.W.mg_of X G a__law_number
    F__law_above := (fun_mk (st := s__law_above) l__law_above c__law_above k__law_above)
    m__law_above := PySem.W.mg_of X G a__law_above
    F__law_below := (fun_mk (st := s__law_below) l__law_below c__law_below k__law_below)
    m__law_below := PySem.W.mg_of X G a__law_below
    F__law_is_full := (fun_mk (st := s__law_is_full) l__law_is_full c__law_is_full k__law_is_full)
    m__law_is_full := PySem.W.mg_of X G a__law_is_full
    F__law_is_part := (fun_mk (st := s__law_is_part) l__law_is_part c__law_is_part k__law_is_part)
    m__law_is_part := PySem.W.mg_of X G a__law_is_part
    F__law_rows := (fun_mk (st := s__law_rows) l__law_rows c__law_rows k__law_rows)
    m__law_rows := PySem.W.mg_of X G a__law_rows
    F__law_choices := (fun_mk (st := s__law_choices) l__law_choices c__law_choices k__law_choices)
    m__law_choices := PySem.W.mg_of X G a__law_choices
    F__law_parts_right := (fun_mk (st := s__law_parts_right) l__law_parts_right c__law_parts_right k__law_parts_right)
    m__law_parts_right := PySem.W.mg_of X G a__law_parts_right
    F_law := (fun_mk (st := s_law) l_law c_law k_law)
    m_law := PySem.W.mg_of X G a_law
    c_MOST_ARMS := .inr ⟨_, PySem.W.mg_of X G q_MOST_ARMS⟩
    c_MOST_PLACES := .inr ⟨_, PySem.W.mg_of X G q_MOST_PLACES⟩
    c_GREATEST_KEY := .inr ⟨_, PySem.W.mg_of X G q_GREATEST_KEY⟩
    g_isinstance := PySem.W.mg_none_of X G z_isinstance
    g_int := PySem.W.mg_none_of X G z_int
    g_bool := PySem.W.mg_none_of X G z_bool
    g_len := PySem.W.mg_none_of X G z_len
    g_tuple := PySem.W.mg_none_of X G z_tuple
    g_list := PySem.W.mg_none_of X G z_list
    g_range := PySem.W.mg_none_of X G z_range
    g_enumerate := PySem.W.mg_none_of X G z_enumerate
    g_iter := PySem.W.mg_none_of X G z_iter
    g_sum := PySem.W.mg_none_of X G z_sum
    g_all := PySem.W.mg_none_of X G z_all
    g_any := PySem.W.mg_none_of X G z_any
    g_sorted := PySem.W.mg_none_of X G z_sorted
    g_set := PySem.W.mg_none_of X G z_set
    g_zip := PySem.W.mg_none_of X G z_zip
    cT := ⟨pg, hd, po_, sa⟩
    nMany := na_nMany
    nArms := na_nArms
    nPl := na_nPl
    mC := PySem.W.mg_of X G aC
    mkC := ⟨mk, a_t___init__, i_t___init__, kc⟩
    cr := ⟨rd, ga⟩
    cof := ⟨a_t_of, ⟨_, r_t_of⟩, n_t_of⟩
    cTS := ⟨pgS, hdS, po_S, saS⟩
    sRow := na_sRow
    mCS := PySem.W.mg_of X G aCS
    mkCS := ⟨mkS, a_s___init__, i_s___init__, kcS⟩
    eqcS := ⟨a_s___eq__, i_s___eq__, eneS, eobS, eniS, entS⟩
    kaS := kaS
    knS := knS
    ktkS := ktkS
    kmS := kmS
    kiS_int := kit_no kclS ktyS eniS
    kiS_tuple := kit_no kclS ktyS entS
    nfS_CB := by unfold PySem.W.notFirst; rw [ensS_Barred]; simp
    kiS_CB := kit_no2 kclS ktyS ensS_Barred nesS_Barred
    cTB := ⟨pgB, hdB, po_B, saB⟩
    bWord := na_bWord
    bPl := na_bPl
    mCB := PySem.W.mg_of X G aCB
    mkCB := ⟨mkB, a_b___init__, i_b___init__, kcB⟩
    eqcB := ⟨a_b___eq__, i_b___eq__, eneB, eobB, eniB, entB⟩
    kaB := kaB
    knB := knB
    ktkB := ktkB
    kmB := kmB
    kiB_int := kit_no kclB ktyB eniB
    kiB_tuple := kit_no kclB ktyB entB
    nfB_CS := by unfold PySem.W.notFirst; rw [ensB_Stands]; simp
    kiB_CS := kit_no2 kclB ktyB ensB_Stands nesB_Stands
  }
  exact ⟨A.d_law, fun s v => .of_eq rfl, fun base _ _ => ok_law T⟩
theorem walk {l : PySem.W.OpenLaw} {q : Program} {loose : List Str} {XP : (Str → Option Value) → Heap → Prop} {YP : World → Heap → Prop} {d : DefRec} {K : Params → PySem.W.Frag} (hn : l.most = some 63) (hdf : d.params.defaults = [])
    (hY : ∀ (w : World) (h : Heap), YP w h → (K w.params).In h)
    (F : ∀ (w : World) (mg : Str → Option Value) (fa : Addr) (h : Heap), (K w.params).In h → h.Ns mainGlobals mg → mg d.name = some (.ref fa) →
      ∃ fd : FuncData, (∀ (s : Shared) (u : Value), BindsTo s fd ⟨[u], []⟩ [("script", u)]) ∧ ∀ base : Heap, (K w.params).In base → base.Ns mainGlobals mg → FnOk l.prog w (K w.params) mg base CX0 13 fa fd ["script"] (spLaw (K w.params))) :
    PySem.W.WalkO q loose XP YP l.row.toRowW d [] (fun f vs => PySem.call f vs) :=
  L2.walk_of (n := 63) (k := 13) (x := "script") (CX := fun _ => CX0) (sp := fun w => spLaw (K w.params)) hn (by decide) hdf ⟨rfl, by decide, by decide⟩ hY F (fun _ _ a ns hl _ hS => ⟨a, ns, rfl, hS, hl, fun _ => rfl⟩) fun _ _ _ _ _ z => z
end Tw

open PySem PySem.W PyProof.Rows in
set_option maxRecDepth 100000 in
set_option maxHeartbeats 0 in
theorem PySem.Challenge.cw_heaprows_k51_evidence_of_standing_holds : PySem.Challenge.rw_heaprows_k51_evidence_of_standing.Holds := by
  w_on; o_law; k_head; (case hw => w_witness2)
  k_fill
  refine Tw.walk (l := PySem.Challenge.rw_heaprows_k51_evidence_of_standing) rfl rfl (fun w h Y => PySem.W.kIn_of Y) ?F
  case F =>
    intro w mg fa h KX G hmg
    refine' Tw.all_mk KX G hmg ?aC ?aCS ?aCB ?a_is_integer ?l_is_integer ?c_is_integer ?k_is_integer ?a_is_integer_from ?l_is_integer_from ?c_is_integer_from ?k_is_integer_from ?a_is_key ?l_is_key ?c_is_key ?k_is_key ?a_check_arms ?l_check_arms ?c_check_arms ?k_check_arms ?a_check_many ?l_check_many ?c_check_many ?k_check_many ?a_check_place ?l_check_place ?c_check_place ?k_check_place ?a_row_of ?l_row_of ?c_row_of ?k_row_of ?a_is_full ?l_is_full ?c_is_full ?k_is_full ?a_is_set_of_places ?l_is_set_of_places ?c_is_set_of_places ?k_is_set_of_places ?a_t___init__ ?i_t___init__ ?l_t___init__ ?c_t___init__ ?k_t___init__ ?w_t___init__ ?a_t_of ?r_t_of ?n_t_of ?l_t_of ?c_t_of ?k_t_of ?w_t_of ?a_t___len__ ?i_t___len__ ?n_t___len__ ?l_t___len__ ?c_t___len__ ?k_t___len__ ?a_t___iter__ ?i_t___iter__ ?n_t___iter__ ?l_t___iter__ ?c_t___iter__ ?k_t___iter__ ?a_t___getitem__ ?i_t___getitem__ ?n_t___getitem__ ?l_t___getitem__ ?c_t___getitem__ ?k_t___getitem__ ?a_t_parent ?i_t_parent ?l_t_parent ?c_t_parent ?k_t_parent ?a_t_way_to ?i_t_way_to ?l_t_way_to ?c_t_way_to ?k_t_way_to ?a_t_subtree ?i_t_subtree ?l_t_subtree ?c_t_subtree ?k_t_subtree ?a_is_heap ?l_is_heap ?c_is_heap ?k_is_heap ?w_is_heap ?a_faults ?l_faults ?c_faults ?k_faults ?w_faults ?a_is_full_heap ?l_is_full_heap ?c_is_full_heap ?k_is_full_heap ?a_s___init__ ?i_s___init__ ?l_s___init__ ?c_s___init__ ?k_s___init__ ?a_s___eq__ ?i_s___eq__ ?l_s___eq__ ?c_s___eq__ ?k_s___eq__ ?a_s_shows ?i_s_shows ?l_s_shows ?c_s_shows ?k_s_shows ?w_s_shows ?a_b___init__ ?i_b___init__ ?l_b___init__ ?c_b___init__ ?k_b___init__ ?a_b___eq__ ?i_b___eq__ ?l_b___eq__ ?c_b___eq__ ?k_b___eq__ ?a_b_shows ?i_b_shows ?l_b_shows ?c_b_shows ?k_b_shows ?w_b_shows ?a_stand ?l_stand ?c_stand ?k_stand ?w_stand ?a_tree_of_standing ?l_tree_of_standing ?c_tree_of_standing ?k_tree_of_standing ?a_places_above ?l_places_above ?c_places_above ?k_places_above ?a_places_below ?l_places_below ?c_places_below ?k_places_below ?a_are_among ?l_are_among ?c_are_among ?k_are_among ?a_row_by_order ?l_row_by_order ?c_row_by_order ?k_row_by_order ?a__law_number ?l__law_number ?c__law_number ?k__law_number ?a__law_above ?l__law_above ?c__law_above ?k__law_above ?a__law_below ?l__law_below ?c__law_below ?k__law_below ?a__law_is_full ?l__law_is_full ?c__law_is_full ?k__law_is_full ?a__law_is_part ?l__law_is_part ?c__law_is_part ?k__law_is_part ?a__law_rows ?l__law_rows ?c__law_rows ?k__law_rows ?a__law_choices ?l__law_choices ?c__law_choices ?k__law_choices ?a__law_parts_right ?l__law_parts_right ?c__law_parts_right ?k__law_parts_right ?a_law ?l_law ?c_law ?k_law ?q_MOST_ARMS ?q_MOST_PLACES ?q_GREATEST_KEY ?z_isinstance ?z_int ?z_bool ?z_len ?z_tuple ?z_list ?z_range ?z_enumerate ?z_iter ?z_sum ?z_all ?z_any ?z_sorted ?z_set ?z_zip ?pg ?hd ?po_ ?sa ?na_nMany ?na_nArms ?na_nPl ?mk ?kc ?rd ?ga ?pgS ?hdS ?po_S ?saS ?na_sRow ?mkS ?kcS ?eneS ?eobS ?eniS ?entS ?kaS ?knS ?ktkS ?kmS ?kclS ?ktyS ?ensS_Barred ?nesS_Barred ?pgB ?hdB ?po_B ?saB ?na_bWord ?na_bPl ?mkB ?kcB ?eneB ?eobB ?eniB ?entB ?kaB ?knB ?ktkB ?kmB ?kclB ?ktyB ?ensB_Stands ?nesB_Stands
    (case aC => k_is)
    (case aCS => k_is)
    (case aCB => k_is)
    (case a_is_integer => k_is)
    (case l_is_integer => k_is)
    (case c_is_integer => k_is)
    (case k_is_integer => k_is)
    (case a_is_integer_from => k_is)
    (case l_is_integer_from => k_is)
    (case c_is_integer_from => k_is)
    (case k_is_integer_from => k_is)
    (case a_is_key => k_is)
    (case l_is_key => k_is)
    (case c_is_key => k_is)
    (case k_is_key => k_is)
    (case a_check_arms => k_is)
    (case l_check_arms => k_is)
    (case c_check_arms => k_is)
    (case k_check_arms => k_is)
    (case a_check_many => k_is)
    (case l_check_many => k_is)
    (case c_check_many => k_is)
    (case k_check_many => k_is)
    (case a_check_place => k_is)
    (case l_check_place => k_is)
    (case c_check_place => k_is)
    (case k_check_place => k_is)
    (case a_row_of => k_is)
    (case l_row_of => k_is)
    (case c_row_of => k_is)
    (case k_row_of => k_is)
    (case a_is_full => k_is)
    (case l_is_full => k_is)
    (case c_is_full => k_is)
    (case k_is_full => k_is)
    (case a_is_set_of_places => k_is)
    (case l_is_set_of_places => k_is)
    (case c_is_set_of_places => k_is)
    (case k_is_set_of_places => k_is)
    (case a_t___init__ => k_is)
    (case i_t___init__ => k_is)
    (case l_t___init__ => k_is)
    (case c_t___init__ => k_is)
    (case k_t___init__ => k_is)
    (case w_t___init__ => k_is)
    (case a_t_of => k_is)
    (case r_t_of => k_is)
    (case n_t_of => k_is)
    (case l_t_of => k_is)
    (case c_t_of => k_is)
    (case k_t_of => k_is)
    (case w_t_of => k_is)
    (case a_t___len__ => k_is)
    (case i_t___len__ => k_is)
    (case n_t___len__ => k_is)
    (case l_t___len__ => k_is)
    (case c_t___len__ => k_is)
    (case k_t___len__ => k_is)
    (case a_t___iter__ => k_is)
    (case i_t___iter__ => k_is)
    (case n_t___iter__ => k_is)
    (case l_t___iter__ => k_is)
    (case c_t___iter__ => k_is)
    (case k_t___iter__ => k_is)
    (case a_t___getitem__ => k_is)
    (case i_t___getitem__ => k_is)
    (case n_t___getitem__ => k_is)
    (case l_t___getitem__ => k_is)
    (case c_t___getitem__ => k_is)
    (case k_t___getitem__ => k_is)
    (case a_t_parent => k_is)
    (case i_t_parent => k_is)
    (case l_t_parent => k_is)
    (case c_t_parent => k_is)
    (case k_t_parent => k_is)
    (case a_t_way_to => k_is)
    (case i_t_way_to => k_is)
    (case l_t_way_to => k_is)
    (case c_t_way_to => k_is)
    (case k_t_way_to => k_is)
    (case a_t_subtree => k_is)
    (case i_t_subtree => k_is)
    (case l_t_subtree => k_is)
    (case c_t_subtree => k_is)
    (case k_t_subtree => k_is)
    (case a_is_heap => k_is)
    (case l_is_heap => k_is)
    (case c_is_heap => k_is)
    (case k_is_heap => k_is)
    (case w_is_heap => k_is)
    (case a_faults => k_is)
    (case l_faults => k_is)
    (case c_faults => k_is)
    (case k_faults => k_is)
    (case w_faults => k_is)
    (case a_is_full_heap => k_is)
    (case l_is_full_heap => k_is)
    (case c_is_full_heap => k_is)
    (case k_is_full_heap => k_is)
    (case a_s___init__ => k_is)
    (case i_s___init__ => k_is)
    (case l_s___init__ => k_is)
    (case c_s___init__ => k_is)
    (case k_s___init__ => k_is)
    (case a_s___eq__ => k_is)
    (case i_s___eq__ => k_is)
    (case l_s___eq__ => k_is)
    (case c_s___eq__ => k_is)
    (case k_s___eq__ => k_is)
    (case a_s_shows => k_is)
    (case i_s_shows => k_is)
    (case l_s_shows => k_is)
    (case c_s_shows => k_is)
    (case k_s_shows => k_is)
    (case w_s_shows => k_is)
    (case a_b___init__ => k_is)
    (case i_b___init__ => k_is)
    (case l_b___init__ => k_is)
    (case c_b___init__ => k_is)
    (case k_b___init__ => k_is)
    (case a_b___eq__ => k_is)
    (case i_b___eq__ => k_is)
    (case l_b___eq__ => k_is)
    (case c_b___eq__ => k_is)
    (case k_b___eq__ => k_is)
    (case a_b_shows => k_is)
    (case i_b_shows => k_is)
    (case l_b_shows => k_is)
    (case c_b_shows => k_is)
    (case k_b_shows => k_is)
    (case w_b_shows => k_is)
    (case a_stand => k_is)
    (case l_stand => k_is)
    (case c_stand => k_is)
    (case k_stand => k_is)
    (case w_stand => k_is)
    (case a_tree_of_standing => k_is)
    (case l_tree_of_standing => k_is)
    (case c_tree_of_standing => k_is)
    (case k_tree_of_standing => k_is)
    (case a_places_above => k_is)
    (case l_places_above => k_is)
    (case c_places_above => k_is)
    (case k_places_above => k_is)
    (case a_places_below => k_is)
    (case l_places_below => k_is)
    (case c_places_below => k_is)
    (case k_places_below => k_is)
    (case a_are_among => k_is)
    (case l_are_among => k_is)
    (case c_are_among => k_is)
    (case k_are_among => k_is)
    (case a_row_by_order => k_is)
    (case l_row_by_order => k_is)
    (case c_row_by_order => k_is)
    (case k_row_by_order => k_is)
    (case a__law_number => k_is)
    (case l__law_number => k_is)
    (case c__law_number => k_is)
    (case k__law_number => k_is)
    (case a__law_above => k_is)
    (case l__law_above => k_is)
    (case c__law_above => k_is)
    (case k__law_above => k_is)
    (case a__law_below => k_is)
    (case l__law_below => k_is)
    (case c__law_below => k_is)
    (case k__law_below => k_is)
    (case a__law_is_full => k_is)
    (case l__law_is_full => k_is)
    (case c__law_is_full => k_is)
    (case k__law_is_full => k_is)
    (case a__law_is_part => k_is)
    (case l__law_is_part => k_is)
    (case c__law_is_part => k_is)
    (case k__law_is_part => k_is)
    (case a__law_rows => k_is)
    (case l__law_rows => k_is)
    (case c__law_rows => k_is)
    (case k__law_rows => k_is)
    (case a__law_choices => k_is)
    (case l__law_choices => k_is)
    (case c__law_choices => k_is)
    (case k__law_choices => k_is)
    (case a__law_parts_right => k_is)
    (case l__law_parts_right => k_is)
    (case c__law_parts_right => k_is)
    (case k__law_parts_right => k_is)
    (case a_law => k_is)
    (case l_law => k_is)
    (case c_law => k_is)
    (case k_law => k_is)
    (case q_MOST_ARMS => k_is)
    (case q_MOST_PLACES => k_is)
    (case q_GREATEST_KEY => k_is)
    (case z_isinstance => k_is)
    (case z_int => k_is)
    (case z_bool => k_is)
    (case z_len => k_is)
    (case z_tuple => k_is)
    (case z_list => k_is)
    (case z_range => k_is)
    (case z_enumerate => k_is)
    (case z_iter => k_is)
    (case z_sum => k_is)
    (case z_all => k_is)
    (case z_any => k_is)
    (case z_sorted => k_is)
    (case z_set => k_is)
    (case z_zip => k_is)
    (case pg => k_is)
    (case hd => k_is)
    (case po_ => k_is)
    (case sa => k_is)
    (case na_nMany => k_is)
    (case na_nArms => k_is)
    (case na_nPl => k_is)
    (case mk => k_is)
    (case kc => k_is)
    (case rd => k_is)
    (case ga => k_is)
    (case pgS => k_is)
    (case hdS => k_is)
    (case po_S => k_is)
    (case saS => k_is)
    (case na_sRow => k_is)
    (case mkS => k_is)
    (case kcS => k_is)
    (case eneS => k_is)
    (case eobS => k_is)
    (case eniS => k_is)
    (case entS => k_is)
    (case kaS => k_is)
    (case knS => k_is)
    (case ktkS => k_is)
    (case kmS => k_is)
    (case kclS => k_is)
    (case ktyS => k_is)
    (case ensS_Barred => k_is)
    (case nesS_Barred => decide)
    (case pgB => k_is)
    (case hdB => k_is)
    (case po_B => k_is)
    (case saB => k_is)
    (case na_bWord => k_is)
    (case na_bPl => k_is)
    (case mkB => k_is)
    (case kcB => k_is)
    (case eneB => k_is)
    (case eobB => k_is)
    (case eniB => k_is)
    (case entB => k_is)
    (case kaB => k_is)
    (case knB => k_is)
    (case ktkB => k_is)
    (case kmB => k_is)
    (case kclB => k_is)
    (case ktyB => k_is)
    (case ensB_Stands => k_is)
    (case nesB_Stands => decide)
