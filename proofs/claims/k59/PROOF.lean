import PyProof.Rows.All
import Wide.All
import OpenK.AllK
import Wide.FinOn
import HandS.ForMost
import HandS.ForExc
import HandS.IsInst
import HandS.MakeKwOnly
import HandS.ClsMeth
import HandS.Conv
import HandS.Codes
import HandS.Walk
import HandS.Style
import HandS.Flow
import HandS.Wide
import HandS.OwnEq
import HandS.OwnIter
import HandS.IterVal
import KE.KOwnIter
import PyProof.FactsAll.tuple_iterator_1
import HandS.Deep
import HandS.SortRule
import KE.GoesMore
import KE.GoesEnum
import KE.KLam
import KE.DataMinKey
import HandS.Base
import HandS.Call
import HandS.List
import HandS.Comp
import HandS.Lambda
import HandS.Nested
import HandS.Keys
import HandS.SortInts
import PyProof.NeKinds
import HandS.SetFor
import HandS.Strs
import HandS.TupSets
import KE.SortData
import HandS.Sort
import HandS.TupAny
import HandS.EndTab
import HandS.Rev
import PySem.Challenge.RW_heaprows_k59_whole_codes
set_option Elab.async false
set_option maxRecDepth 100000
set_option Elab.async false
set_option linter.all false
set_option maxRecDepth 100000
set_option maxHeartbeats 2000000
namespace Tw
open PySem PySem.Spec PyProof.Rows L2

/-! own rules: an instance with dunder methods -/
/-- a dunder method of the class at C, its def at f -/
structure Dn (K : PySem.W.Frag) (C : Addr) (m : Str) (f : Addr) : Prop where
  at_ : PySem.W.findIn K (.ref C) m = some (some (.ref f))
  fn : PySem.W.isFn K (.ref f) = true
  fi : PySem.W.fnIn K f = true


section
variable {X : Cx} {CX : CXT} {k n : Nat} {f C : Addr} {fd : FuncData} {ps : List Str} {sp : Sp} {E : XK} {o e : Expr} {pos : Pos} {ta tb : TE} {A1 : Around}
  {pins : List (Addr × Obj)} {σ : L2.St} {H : Hp} {s : Shared} {Q : VK}
theorem Sub.env0 (sb : Sub X n A1) (I : Inv X pins σ H s) : Env0 X.prog X.w X.K X.mg X.base A1 X.stack s H := by
  have q := I.env0
  exact ⟨by rw [sb.fr]; exact q.frames, q.mod, q.bs, q.bsz, q.funs, q.frf, q.hok, q.bare⟩
theorem run_sub {us : List Value} {vs : List V} (F : FnOk X.prog X.w X.K X.mg X.base CX k f fd ps sp) (sb : Sub X k A1) (hb : Binds X.K fd ps []) (hx : Passes CX X E) (I : Inv X pins σ H s) (r : Vals vs us) (h : sp vs H Q E) :
    wpAny (model X.prog X.w) A1 (call (.ref f) us) (EP X pins σ Q) X.xe s := by
  have hl : us.length = ps.length := by rw [← r.length]; exact F.len _ _ _ _ h
  have hb1 : BindsTo s fd ⟨us, []⟩ (ps.zip us) := by
    have z := hb s us I.kIn (by rw [List.append_nil]; exact hl)
    rw [List.append_nil] at z
    exact z
  refine wpAny_call (codeAny_mono (F.run A1 X.stack s H ⟨us, []⟩ us vs Q E sb.room (Sub.env0 sb I) hb1 r h) fun z s' hq => ?_)
  match z, hq with
  | .error e, hq => exact hx pins σ H s e s' I hq
  | .ok (.ret u), hq => exact I.after hq
  | .ok .next, hq => exact False.elim hq
  | .ok .brk, hq => exact False.elim hq
  | .ok .cont, hq => exact False.elim hq
theorem relR (a : Addr) : RelV (V.ref a) (Value.ref a) := rfl
theorem relB (b : Bool) : RelV (V.bl b) (Value.bool b) := rfl
theorem relI (i : Int) (t : Tok) : RelV (V.int i) (Value.int i t) := ⟨t, rfl⟩
/-- o[e] by the class's own def -/
def tGi (C : Addr) (sp : Sp) (E : XK) (ta tb : TE) : TE := fun σ H Q => ta σ H fun x H1 => tb σ H1 fun y H2 =>
  ∃ a dx fs, x = .ref a ∧ H2 a = some (.ins C dx fs) ∧ sp [.ref a, y] H2 Q E
theorem pe_gi (hd : Dn X.K C "__getitem__" f) (F : FnOk X.prog X.w X.K X.mg X.base CX k f fd ps sp) (hr : Room (k + 1) X.A) (hb : Binds X.K fd ps []) (hx : Passes CX X E) (ho : PE X o ta) (he : PE X e tb)
    (hs : ∀ v u, subscripted e true v u = runValue (.builtin "lifetime.subscript" ⟨[v, u], []⟩) := by intro _ _; with_unfolding_all rfl) :
    PE X (.Subscript o e pos) (tGi C sp E ta tb) := by
  refine ⟨fun pins s σ H Q I h => ?_⟩
  refine Subscript_ (binT ho he (R := fun x y H2 => ∃ a dx fs, x = .ref a ∧ H2 a = some (.ins C dx fs) ∧ sp [.ref a, y] H2 Q E) I h fun v u s2 x y H2 I2 rx ry ⟨a, dx, fs, ex, ha, q⟩ => ?_)
  subst ex
  obtain rfl : v = Value.ref a := rx
  obtain ⟨mA, O, rr, _, _, _⟩ := ins_get I2.hok ha
  obtain ⟨od, J, hl⟩ := O.look
  obtain ⟨m0, hF⟩ := I2.fr
  exact PySem.W.sub_K hF I2.ok.mod.kin J hd.at_ hd.fi hd.fn (run_sub F (Sub.in1 ⟨hr, rfl⟩) hb hx I2 (.cons (relR a) (.cons ry .nil)) q) (hs _ _)
/-- e in o, by the class's own def -/
def rIn (C : Addr) (sp : Sp) (E : XK) (neg : Bool) : R2 := fun x y H Q =>
  ∃ a dx fs, y = .ref a ∧ H a = some (.ins C dx fs) ∧ sp [.ref a, x] H (fun v H' => ∃ b, v = .bl b ∧ Q (.bl (if neg then !b else b)) H') E
theorem op_in_own (hd : Dn X.K C "__contains__" f) (F : FnOk X.prog X.w X.K X.mg X.base CX k f fd ps sp) (hr : Room k X.A) (hb : Binds X.K fd ps []) (hx : Passes CX X E) : OpR X (compareOp .In) (rIn C sp E false) := by
  intro pins s σ H x y v u Q I rx ry ⟨a, dx, fs, ey, ha, q⟩
  subst ey
  obtain rfl : u = Value.ref a := ry
  obtain ⟨mA, O, rr, _, _, _⟩ := ins_get I.hok ha
  obtain ⟨od, J, hl⟩ := O.look
  obtain ⟨m0, hF⟩ := I.fr
  refine PySem.W.in_K hF I.ok.mod.kin J hd.at_ hd.fn (thn (run_sub F ⟨hr, rfl⟩ hb hx I (.cons (relR a) (.cons rx .nil)) q) fun r s' ⟨z, H', I', rz, b, ez, q'⟩ => ?_)
  subst ez
  obtain rfl : r = Value.bool b := rz
  exact wpAny_truthy_bool ⟨_, _, I', relB b, q'⟩
/-- len(o) by the class's own def -/
def rLenO (C : Addr) (sp : Sp) (E : XK) : List V → Hp → VK → Prop := fun xs H Q =>
  ∃ a dx fs, xs = [.ref a] ∧ H a = some (.ins C dx fs) ∧ sp [.ref a] H (fun v H' => ∃ n : Nat, v = .int n ∧ n < 1000 ∧ Q (.int n) H') E
theorem call_len_own (hd : Dn X.K C "__len__" f) (F : FnOk X.prog X.w X.K X.mg X.base CX k f fd ps sp) (hr : Room (k + 1) X.A) (hb : Binds X.K fd ps []) (hx : Passes CX X E) : CallR X (.builtin "len") (rLenO C sp E) := by
  intro pins s σ H xs us Q I rv ⟨a, dx, fs, ex, ha, q⟩
  subst ex
  obtain ⟨u, rfl, ru⟩ := rv.one
  obtain rfl : u = Value.ref a := ru
  obtain ⟨mA, O, rr, _, _, _⟩ := ins_get I.hok ha
  obtain ⟨od, J, hl⟩ := O.look
  obtain ⟨m0, hF⟩ := I.fr
  refine PySem.W.len_K hF I.ok.mod.kin J hd.at_ hd.fn (thn (run_sub F (Sub.in1 ⟨hr, rfl⟩) hb hx I (.cons (relR a) .nil) q) fun r s' ⟨z, H', I', rz, n, ez, hn, q'⟩ => ?_)
  subst ez
  obtain ⟨t, rfl⟩ := rz
  exact ⟨⟨by omega, by omega⟩, _, _, I'.tok _, relI _ _, q'⟩
end

/-! for x in o, o an instance whose __iter__ says: return iter(self.F), F a tuple -/
def itTup (t : Addr) (i : Nat) : Obj := { cls := .type "tuple_iterator", data := .fields #[.ref t, .int (i : Nat) 0] }
def ItT (t it : Addr) (i : Nat) : HO := .ext fun h => h.get? it = some (itTup t i)
def rIterT (K : PySem.W.Frag) (n : Nat) : List V → Hp → VK → Prop := fun xs H Q => ∃ (t : Addr) (zs : List V), xs = [.ref t] ∧ SqT K H t zs ∧ ∀ it, H it = Option.none → n ≤ it → Q (.ref it) (upd H it (ItT t it 0))
section
variable {X : Cx}
theorem call_iterT : CallR X (.builtin "iter") (rIterT X.K X.s_0.heap.objs.size) := by
  intro pins s σ H xs us Q I r ⟨t, zs, e, hq, q⟩
  subst e
  obtain ⟨u, rfl, ru⟩ := r.one
  obtain rfl : u = Value.ref t := ru
  obtain ⟨its, rv, pl, hz⟩ := I.tuple hq
  refine Calls.call_function_entry (by decide +kernel) (by decide +kernel) PySem.W.kdk_entry_iter (PySem.W.kdk_args_iter _) ?_
  unfold Builtin.«iter»
  refine wpAny_bind (m := someArgs "iter" 1 2 _) (wpAny_of_eq (a := [Value.ref t]) (by first | rfl | kernel_rfl!) ?_)
  show wpAny _ _ (pyIter (.ref t) >>= _) _ _ _
  refine wpAny_bind (wpAny_pyIter_tuple (show s.heap.IsTuple t its.toArray from pl) ?_)
  have g : (s.heap.push (itTup t 0)).get? s.heap.objs.size = some (itTup t 0) := Heap.get?_push_size _ rfl
  have ok : ObjOk X.prog X.w (upd H s.heap.objs.size (ItT t s.heap.objs.size 0)) (s.heap.push (itTup t 0)) s.heap.objs.size (ItT t s.heap.objs.size 0) := ⟨g, ⟨_, g⟩, fun _ _ q k => k _ q⟩
  exact wpAny_pure ⟨_, rfl, .ref s.heap.objs.size, _, I.laid (t' := s.toks) (fun b u e => Heap.get?_push_of_some _ e) (Nat.le_refl _) ok, relR _, q _ (I.hok.fresh (Nat.le_refl _)) I.sz⟩
end

/-- a promise that may speak of how many objects there are when the def is called -/
def FnIt (P : Program) (w : World) (K : PySem.W.Frag) (mg : Str → Option Value) (base : Heap) (k : Nat) (f : Addr) (fd : FuncData) (ps : List Str) (sp : Nat → List V → Hp → VK → Prop) : Prop :=
  ∀ (A : Around) (outer : List Env) (s : Shared) (H : Hp) (us : List Value) (vs : List V) (Q : VK), Room k A → Env0 P w K mg base A outer s H → BindsTo s fd ⟨us, []⟩ (ps.zip us) → vs.length = ps.length → Vals vs us →
    sp s.heap.objs.size vs H Q → codeAny (model P w) A (.call (.ref f) ⟨us, []⟩) (CR CX0 outer P w H s Q E0) s
section
variable {P : Program} {w : World} {K : PySem.W.Frag} {mg : Str → Option Value} {base : Heap}
theorem fnIt_of {x qual : Str} {st : Stmt} {f : Addr} {fd : FuncData} {N ps : List Str} {k : Nat} {sp : Nat → List V → Hp → VK → Prop} (F : Fun K x qual st f fd) (S : FnScope N ps (defScope st))
    (hbody : ∀ (cdv : Value) (A : Around) (outer : List Env) (s : Shared) (H : Hp) (vs : List V) (Q : VK), Room k (A.deeper (envOfC qual (defScope st) s.heap.objs.size f cdv)) → sp s.heap.objs.size vs H Q →
      ∃ t, PSs (cxOf CX0 P w K mg base N qual (defScope st) f cdv A outer s H E0).nox (defBody st) t ∧ t { nx := fun _ H' => Q .non H', rt := Q } (start N vs) H) : FnIt P w K mg base (k + 1) f fd ps sp := by
  obtain ⟨oc, od, kV, doc, pm, an, cdv, ct, osl, rfl, lk, hcd⟩ := F.ex
  intro A outer s H us vs Q hr e0 hb hl r hsp
  have kin : K.In s.heap := e0.mod.kin.keeps fun b o e => (e0.bs b o e).1
  have lim : s.heap.NoLimit := e0.mod.nolimit.keeps fun b o e => (e0.bs b o e).1
  have kinds : ∀ y ∈ ps.zip us, (defScope st).names.lookup y.1 = some .local ∨ ((defScope st).names.lookup y.1 = some .cell ∧ ((cellsFrom (s.heap.objs.size + 1) (defScope st).names []).lookup y.1).isSome = true) := by
    intro y hy
    cases S.par y.1 (List.of_mem_zip (a := y.1) (b := y.2) hy).1 with
    | inl q => exact .inl q
    | inr q => exact .inr ⟨q, PySem.W.cellsFrom_some _ _ _ (.inl q)⟩
  apply codeAny_call_function hr.depth (kin _ _ lk) rfl S.co S.gen rfl (PySem.W.codeRec_of kin hcd) (hb _ _ _ _ ?_)
  apply wpAny_newFunctionEnv_cells S.kind kinds
  intro env he s1 x
  subst he
  refine ⟨lim.keeps x.toInCall.keep, codeAny_func ?_⟩
  obtain ⟨t, ht, hq⟩ := hbody cdv A outer s H vs Q (hr.deeper _) hsp
  have I := inv_start (CX := CX0) (P := P) (w := w) (E := E0) (cd := cdv) (qual := qual) (f := f) (outer := outer) S hr.hd e0 hl r x
  refine wpAny_mono (ht.nox.run [] s1 (start N vs) H _ I hq) (fun fl s' hs => ?_) fun e s' hs => hs
  match fl, hs with
  | .ret u, ⟨v, σ', H', J, rv, q⟩ => exact ⟨v, H', J.os, J.bare, J.base, J.hok, rv, q⟩
  | .next, ⟨σ', H', J, q⟩ => exact ⟨V.non, H', J.os, J.bare, J.base, J.hok, rfl, q⟩
  | .brk, ⟨_, _, _, q⟩ => exact False.elim q
  | .cont, ⟨_, _, _, q⟩ => exact False.elim q
end
/-- what such an __iter__ promises -/
def spIter (K : PySem.W.Frag) (C : Addr) (fld : Str) : Nat → List V → Hp → VK → Prop := fun n vs H Q => ∃ a dx fs t zs, vs = [.ref a] ∧ H a = some (.ins C dx fs) ∧ fs.lookup fld = some (.ref t) ∧ SqT K H t zs ∧
  ∀ it, H it = Option.none → n ≤ it → Q (.ref it) (upd H it (ItT t it 0))
/-- x in o, for a loop: o's own tuple is walked -/
def iOwn (K : PySem.W.Frag) (C : Addr) (fld : Str) (to : TE) : TI := fun σ H R => to σ H fun x H1 => ∃ a dx fs t zs, x = .ref a ∧ H1 a = some (.ins C dx fs) ∧ fs.lookup fld = some (.ref t) ∧ SqT K H1 t zs ∧ R (Itt K t) H1
section
variable {X : Cx} {k : Nat} {f C : Addr} {fd : FuncData} {fld : Str} {tg o : Expr} {to : TE} {pins : List (Addr × Obj)} {σ : L2.St} {H : Hp} {s : Shared} {A1 : Around}
theorem run_iter {a t dx : Addr} {fs : List (Str × V)} {zs : List V} (F : FnIt X.prog X.w X.K X.mg X.base k f fd ["self"] (spIter X.K C fld)) (sb : Sub X k A1) (hb : Binds X.K fd ["self"] []) (I : Inv X pins σ H s)
    (ha : H a = some (.ins C dx fs)) (hf : fs.lookup fld = some (.ref t)) (ht : SqT X.K H t zs) {E : Value → Shared → Prop} :
    wpAny (model X.prog X.w) A1 (call (.ref f) [.ref a]) (fun u s' => ∃ it, u = .ref it ∧ s.heap.objs.size ≤ it ∧ H it = Option.none ∧ Inv X pins σ (upd H it (ItT t it 0)) s') E s := by
  have hb1 : BindsTo s fd ⟨[.ref a], []⟩ ((["self"] : List Str).zip [Value.ref a]) := by
    have z := hb s [.ref a] I.kIn rfl
    exact z
  refine wpAny_call (codeAny_mono (F A1 X.stack s H [.ref a] [.ref a] (fun v H' => ∃ it, v = .ref it ∧ s.heap.objs.size ≤ it ∧ H it = Option.none ∧ H' = upd H it (ItT t it 0)) sb.room (Sub.env0 sb I) hb1 rfl (.cons (relR a) .nil)
    ⟨a, dx, fs, t, zs, rfl, ha, hf, ht, fun it h0 hn => ⟨it, rfl, hn, h0, rfl⟩⟩) fun z s' hq => ?_)
  match z, hq with
  | .error e, hq => exact hq.elim
  | .ok (.ret u), hq =>
    obtain ⟨v, H', I', rv, it, ev, hn, h0, eH⟩ := I.after hq
    subst ev
    rw [eH] at I'
    obtain rfl : u = Value.ref it := rv
    exact ⟨it, rfl, hn, h0, I'⟩
  | .ok .next, hq => exact False.elim hq
  | .ok .brk, hq => exact False.elim hq
  | .ok .cont, hq => exact False.elim hq
theorem pi_own (hd : Dn X.K C "__iter__" f) (F : FnIt X.prog X.w X.K X.mg X.base k f fd ["self"] (spIter X.K C fld)) (hr : Room k X.A) (hb : Binds X.K fd ["self"] []) (ho : PE X o to) : PI X tg o (iOwn X.K C fld to) := by
  refine ⟨fun pins s σ H R I h => ?_⟩
  refine thn (ho.run pins s σ H _ I h) fun u s1 ⟨x, H1, I1, rx, a, dx, fs, t, zs, ex, ha, hf, ht, q⟩ => ?_
  subst ex
  obtain rfl : u = Value.ref a := rx
  obtain ⟨mA, O, rr, _, _, _⟩ := ins_get I1.hok ha
  obtain ⟨od, J, hl⟩ := O.look
  obtain ⟨m0, hF⟩ := I1.fr
  refine PySem.W.owit_iter hF I1.ok.mod.kin J hd.at_ hd.fn (thn (run_iter F ⟨hr, rfl⟩ hb I1 ha hf ht) fun r s2 ⟨it, er, hn, h0, I2⟩ => ?_)
  subst er
  have e2 : upd H1 it (ItT t it 0) it = some (ItT t it 0) := upd_same
  have g : s2.heap.get? it = some (itTup t 0) := (I2.hok it _ e2).1
  have hT : s2.TypeIs (.ref it) "tuple_iterator" := ⟨_, g, rfl⟩
  have hfp := ItX.inv_fp I2 e2 (Nat.le_trans I1.sz hn)
  have I3 := ItX.inv_drop I2 e2
  rw [ItX.dropH_upd h0] at I3 hfp
  unfold PySem.W.OwitIt
  refine wpAny_specialOf (name := Str.ofString "__next__") hT PySem.F.slot_tuple_iterator_next.lookup ?_
  refine ⟨it, [it], _, _, H1, rfl, I3, turn_tuple t it, ⟨_, g, rfl, rfl⟩, fun b hb => ?_, q⟩
  rw [List.mem_singleton.mp hb]
  exact hfp
end
/-! C.m(e, .., k = v, ..), m a classmethod; cls(e, .., k = v, ..), cls a local name that holds the class -/
def tCMethK (C : Addr) (n m : Nat) (sp : Sp) (gV : List V → List V → List V) (E : XK) (ta : TE) (t tk : TA) : TE := fun σ H Q => ta σ H fun x H1 => x = .ref C ∧ t σ H1 fun vs H2 => tk σ H2 fun zs H3 => (.ref C :: vs).length = n ∧ zs.length = m ∧ sp (gV (.ref C :: vs) zs) H3 Q E
def tMakeLK (i : Nat) (C : Addr) (n m : Nat) (sp : Sp) (gV : List V → List V → List V) (E : XK) (t tk : TA) : TE := fun σ H Q => σ[i]? = some (some (.ref C)) ∧ tMakeK C n m sp gV E t tk σ H Q
section
variable {X : Cx} {CX : CXT} {k n i : Nat} {C p g f : Addr} {mc : Value} {sp : Sp} {E : XK} {o e : Expr} {es : List Expr} {kws : List Keyword} {m x : Str} {pos apos xpos : Pos} {ta : TE} {t tk : TA} {pl : Sem Bool} {fd : FuncData} {ps ks : List Str}
  {gv : List Value → List Value → List Value} {gV : List V → List V → List V}
theorem pe_cmethK (he : PE X o ta) (r : ClX.CRead X.K C mc) (c : ClX.CMet X.K C mc m p g) (F : FnOk X.prog X.w X.K X.mg X.base CX k g fd ps sp) (hr : Room k X.A) (hb : KBn X.K fd ps n ks gv gV) (hx : Passes CX X E) (ha : PA X (e :: es) t) (hkw : PK X kws tk)
    (hall : (backToKw pos (keywordEach kws X.env)).all (·.1.isSome) = true := by rfl) (hks : (backToKw pos (keywordEach kws X.env)).filterMap (·.1) = ks := by rfl)
    (hst : starEach (e :: es) X.env = (false, eval e X.env) :: starEach es X.env := by rfl) (hpl : ((backTo pos (starEach (e :: es) X.env)).any (·.1) || (backToKw pos (keywordEach kws X.env)).any (·.1.isNone)) = false := by rfl)
    (ht : eval (.Call (.Attribute o m apos) (e :: es) kws pos) X.env = (do
      let ov ← eval o X.env
      standAt apos.atName
      let (f, first) ← holding [ov] (getMethod ov m pl)
      callWith pos f first (backTo pos (starEach (e :: es) X.env)) (backToKw pos (keywordEach kws X.env))) := by rfl) :
    PE X (.Call (.Attribute o m apos) (e :: es) kws pos) (tCMethK C n ks.length sp gV E ta t tk) := by
  refine ⟨fun pins s σ H Q I h => ?_⟩
  refine PySem.W.methodCall_KW (pl := pl) (thn (he.run pins s σ H _ I h) fun u s1 ⟨x, H1, I1, rx, ex, q⟩ => ?_) ht
  subst ex
  obtain rfl : u = Value.ref C := rx
  refine ClX.getmethcm_ok I1 r c fun s2 I2 => ?_
  refine PySem.W.callWith_of (P := PySem.W.MethP X.K s1.heap.objs.size g (.ref C)) hpl (PySem.W.keeps_M c.fi) (evalArgs_kw2 hall (thn (ha.run pos _ s2 σ H1 _ I2 q) fun us s3 ⟨vs, H2, I3, rv, q2⟩ => ?_) hst)
  refine thn (hkw.run pos _ s3 σ H2 _ I3 q2) fun ws s4 ⟨zs, H3, I4, rz, l1, l2, q3⟩ => ⟨⟨ClX.pin_at I4, I4.kIn⟩, ?_⟩
  rw [hks]
  have r2 : Vals (V.ref C :: vs) (Value.ref C :: us) := .cons (relR C) rv
  have n1 : (Value.ref C :: us).length = n := r2.length.symm.trans l1
  have I5 := ClX.unpin I4
  refine wpAny_call (PySem.W.method_call (ClX.pin_at I4) (codeAny_mono (F.run X.A X.stack s4 H3 ⟨Value.ref C :: us, ks.zip ws⟩ _ _ Q E hr I5.env0 (hb.to _ (Value.ref C :: us) ws I5.kIn n1 (rz.length.symm.trans l2)) (hb.rel r2 rz) q3) fun z s' hq => ?_))
  match z, hq with
  | .error e, hq => exact hx pins σ H3 s4 e s' I5 hq
  | .ok (.ret u), hq => exact I5.after hq
  | .ok .next, hq => exact False.elim hq
  | .ok .brk, hq => exact False.elim hq
  | .ok .cont, hq => exact False.elim hq
theorem pe_makeLK (M : Mk X.K C f) (F : FnOk X.prog X.w X.K X.mg X.base CX k f fd ps sp) (hr : Room (k + 1) X.A) (hb : KBn X.K fd ps (n + 1) ks gv gV) (hx : Passes CX X E) (ha : PA X (e :: es) t) (hkw : PK X kws tk)
    (hN : X.N[i]? = some x) (hv : Vis X.env.scope x) (hd : (x == ("__debug__" : Str)) = false := by decide) (hcd : (x == ("__classdict__" : Str)) = false := by decide)
    (hall : (backToKw pos (keywordEach kws X.env)).all (·.1.isSome) = true := by rfl) (hks : (backToKw pos (keywordEach kws X.env)).filterMap (·.1) = ks := by rfl)
    (hst : starEach (e :: es) X.env = (false, eval e X.env) :: starEach es X.env := by rfl) (hpl : ((backTo pos (starEach (e :: es) X.env)).any (·.1) || (backToKw pos (keywordEach kws X.env)).any (·.1.isNone)) = false := by rfl) :
    PE X (.Call (.Name x xpos) (e :: es) kws pos) (tMakeLK i C n ks.length sp gV E t tk) := by
  refine ⟨fun pins s σ H Q I ⟨h0, h⟩ => ?_⟩
  refine wpAny_Call_Name_kw (thn ((pe_var (pos := xpos) (i := i) hN hv hd hcd).run pins s σ H (fun v H1 => v = .ref C ∧ H1 = H) I ⟨.ref C, h0, rfl, rfl⟩) fun u s1 ⟨v, H1, I1, r1, ev, eH⟩ => ?_)
  subst ev
  rw [eH] at I1
  obtain rfl : u = Value.ref C := r1
  refine PySem.W.callWith_KW (h₀ := X.base) I1.ok.mod.kin M.kp hall (thn (ha.run pos pins s1 σ H _ I1 h) fun us s2 ⟨vs, H2, I2, r, q⟩ => ?_) hpl hst
  refine thn (hkw.run pos pins s2 σ H2 _ I2 q) fun ws s3 ⟨zs, H3, I3, rz, l1, l2, q2⟩ => ⟨I3.kIn, ?_⟩
  rw [hks]
  exact run_makeK M F hr hb hx I3 r rz l1 l2 q2
end

/-! heaps that only grow -/
theorem Same.up {H : Hp} {p : Addr} {o : HO} (h : H p = Option.none) : Same H (upd H p o) := fun b u e => by
  rw [upd_ne (ne_of_none e h)]
  exact e
/-- a list under way at D, which was not there in H1 -/
structure Acc (H1 : Hp) (D : Addr) (acc : List V) (H : Hp) : Prop where
  s : Same H1 H
  n : H1 D = Option.none
  a : H D = some (.lst acc)
theorem Acc.start {H1 : Hp} {D : Addr} (n : H1 D = Option.none) : Acc H1 D [] (upd H1 D (.lst [])) := ⟨Same.up n, n, upd_same⟩
theorem Acc.same {H1 H H' : Hp} {D : Addr} {acc : List V} (h : Acc H1 D acc H) (s : Same H H') : Acc H1 D acc H' := ⟨h.s.trans s, h.n, s _ _ h.a⟩
theorem Acc.push {H1 H : Hp} {D : Addr} {acc zs : List V} (h : Acc H1 D acc H) : Acc H1 D zs (upd H D (.lst zs)) :=
  ⟨fun b o e => by rw [upd_ne (ne_of_none e h.n)]; exact h.s b o e, h.n, upd_same⟩
theorem Same.none' {H H' : Hp} (s : Same H H') {p : Addr} (h : H' p = Option.none) : H p = Option.none := s.free h
theorem Same.of_upd {H H' : Hp} {p : Addr} {o : HO} (h : H p = Option.none) (s : Same (upd H p o) H') : Same H H' := (Same.up h).trans s
/-- a list of ints as values -/
theorem ints_at {ns : List Int} {i : Nat} {x : V} (h : (ns.map V.int)[i]? = some x) : ∃ (hi : i < ns.length), x = .int ns[i] := by
  rw [List.getElem?_map] at h
  cases e : ns[i]? with
  | none => rw [e] at h; cases h
  | some u =>
    rw [e] at h
    obtain ⟨hi, rfl⟩ := List.getElem?_eq_some_iff.mp e
    exact ⟨hi, (Option.some.inj h).symm⟩

/-! comprehensions that pick -/
section
variable {α : Type} {H1 H : Hp} {D : Addr} {ks : List α} {f : α → Option V} {i : Nat} {c : α → V}
def PickI (H1 : Hp) (D : Addr) (ks : List α) (f : α → Option V) : Nat → Hp → Prop := fun i H => Acc H1 D ((ks.take i).filterMap f) H
theorem pick_start (n : H1 D = Option.none) : PickI H1 D ks f 0 (upd H1 D (.lst [])) := Acc.start n
theorem take_fm (hi : i < ks.length) : (ks.take (i + 1)).filterMap f = (ks.take i).filterMap f ++ (f ks[i]).toList := by
  rw [List.take_succ_eq_append_getElem hi, List.filterMap_append]
  cases h : f ks[i] <;> simp [h]
theorem pick_yes {H' : Hp} {y : V} (hi : i < ks.length) (hl : ks.length ≤ 1000) (e : f ks[i] = some y) (s : Same H H') (h : PickI H1 D ks f i H) :
    ∃ acc, H' D = some (.lst acc) ∧ acc.length < sizeLine ∧ PickI H1 D ks f (i + 1) (upd H' D (.lst (acc ++ [y]))) := by
  have h2 := Acc.same h s
  refine ⟨_, h2.a, small1000 ?_, ?_⟩
  · exact Nat.le_trans (Nat.le_trans (List.length_filterMap_le _ _) (List.length_take_le _ _)) (by omega)
  · unfold PickI
    rw [take_fm hi, e]
    exact h2.push
theorem pick_no {H' : Hp} (hi : i < ks.length) (e : f ks[i] = none) (s : Same H H') (h : PickI H1 D ks f i H) : PickI H1 D ks f (i + 1) H' := by
  unfold PickI
  rw [take_fm hi, e, Option.toList_none, List.append_nil]
  exact Acc.same h s
theorem pick_end {m : Nat} (hm : m = ks.length) (h : PickI H1 D ks f m H) : Acc H1 D (ks.filterMap f) H := by
  subst hm
  unfold PickI at h
  rw [List.take_length] at h
  exact h
theorem map_at {x : V} (h : (ks.map c)[i]? = some x) : ∃ hi : i < ks.length, x = c ks[i] := by
  rw [List.getElem?_map] at h
  cases e : ks[i]? with
  | none => rw [e] at h; cases h
  | some u =>
    rw [e] at h
    obtain ⟨hi, rfl⟩ := List.getElem?_eq_some_iff.mp e
    exact ⟨hi, (Option.some.inj h).symm⟩
end
end Tw

set_option Elab.async false
set_option linter.all false
set_option maxRecDepth 100000
set_option maxHeartbeats 2000000
namespace Tw
open PySem PySem.Spec PyProof.Rows L2
open PySem.W (InstAt looks_findIn looks_subIn ifBound_K cmp_K)
/-- a class with an own __eq__ and the usual != -/
structure EqC (K : PySem.W.Frag) (C f : Addr) : Prop where
  eq : PySem.W.findIn K (.ref C) "__eq__" = some (some (.ref f))
  fn : PySem.W.isFn K (.ref f) = true
  ne : PySem.W.findIn K (.ref C) "__ne__" = some (some (.builtin "object.__ne__"))
  ob : PySem.W.subIn K (.ref C) (.type "object") = some true
  ni : PySem.W.subIn K (.type "int") (.ref C) = some false
  nt : PySem.W.subIn K (.type "tuple") (.ref C) = some false

section
variable {prog : Program} {w : World} {A : Around} {E : Value → Shared → Prop} {s : Shared} {K : PySem.W.Frag} {x C L f : Addr} {h₀ : Heap} {m : Str → Option Value} {ox : Obj} {od : Option Obj} {b tb : Value}
theorem ne_entry {Q : PySem.Fin → Shared → Prop} (hu : A.units < cLine) (X : K.In s.heap) (I : InstAt s.heap x ox C od) (c : EqC K C f)
    (h : wpAny (model prog w) A (call (.ref f) [.ref x, b]) (fun v s' => ∃ r, v = .bool r ∧ Q (.done (.ret (.bool (!r)))) s') E s) :
    wpAny (model prog w) A (Builtin.«object.__ne__» ⟨[.ref x, b], []⟩) Q E s := by
  unfold Builtin.«object.__ne__»
  refine wpAny_bind (wpAny_of_eq (a := (Value.ref x, [b])) (by first | rfl | kernel_rfl!) ?_)
  refine wpAny_bind (wpAny_cRoomFor hu ?_)
  refine wpAny_bind (m := callSpecialIfBound? (.ref x) (Str.ofString "__eq__") [b]) (ifBound_K X I c.eq c.fn (wpAny_mono h (fun v s' hv => ?_) fun _ _ e => e))
  obtain ⟨r, e, q⟩ := hv
  subst e
  refine wpAny_bind (m := truthy (.bool r)) (wpAny_truthy_bool ?_)
  exact wpAny_pure q
theorem ne_call {Q : Value → Shared → Prop} (hu : A.in1.units < cLine) (X : K.In s.heap) (I : InstAt s.heap x ox C od) (c : EqC K C f)
    (h : wpAny (model prog w) A.in1 (call (.ref f) [.ref x, b]) (fun v s' => ∃ r, v = .bool r ∧ Q (.bool (!r)) s') E s) :
    wpAny (model prog w) A (call (.builtin "object.__ne__") [.ref x, b]) Q E s := by
  have t2 : PySem.W.Looks (model prog w) s.heap (isInstance (.ref x) (.type "object")) true := I.type.andThen (looks_subIn X c.ob)
  refine wpAny_call (codeAny_call_builtin F.cmp_object.ne.plain F.cmpEntry_ne (PySem.W.check_slot F.cmpKind_ne F.cmpSplit_ne t2 (F.cmpArgs_ne _ _) (ne_entry hu X I c (wpAny_mono h (fun v s' hv => ?_) fun _ _ e => e))))
  obtain ⟨r, e, q⟩ := hv
  exact ⟨r, e, q⟩
theorem ne_bound {Q : Option Value → Shared → Prop} (hu : A.in1.units < cLine) (X : K.In s.heap) (I : InstAt s.heap x ox C od) (c : EqC K C f)
    (h : wpAny (model prog w) A.in1 (call (.ref f) [.ref x, b]) (fun v s' => ∃ r, v = .bool r ∧ Q (some (.bool (!r))) s') E s) :
    wpAny (model prog w) A (callSpecialIfBound? (.ref x) "__ne__" [b]) Q E s := by
  simp only [callSpecialIfBound?, bindSpecialIfBound?]
  refine wpAny_holding (wpAny_bind (wpAny_bind (wpAny_bind (I.type.here ((looks_findIn X c.ne).here ?_)))))
  refine wpAny_bind (wpAny_askSetting (wpAny_ite ?_))
  have fin : wpAny (model prog w) A (call (.builtin "object.__ne__") ([.ref x] ++ [b]) >>= fun v => pure (some v)) Q E s :=
    wpAny_bind (ne_call hu X I c (wpAny_mono h (fun v s' ⟨r, e, q⟩ => ⟨r, e, wpAny_pure q⟩) fun _ _ e => e))
  have bd := F.cmp_object.ne.bind (.ref x)
  split
  · refine wpAny_bind ?_
    rw [bd]
    exact wpAny_pure (wpAny_pure (by exact fin))
  · refine wpAny_tryCatch (wpAny_bind ?_)
    rw [bd]
    exact wpAny_pure (wpAny_pure (by exact fin))
theorem ne_K {Q : Value → Shared → Prop} (hu : A.in1.units < cLine) (hu0 : A.units < cLine) (F : Fr h₀ L s.heap m) (X₀ : K.In h₀) (I : InstAt s.heap x ox C od) (hb : PySem.W.Looks (model prog w) s.heap (typeOf b) tb) (hn : PySem.W.notFirst K C tb = true) (c : EqC K C f)
    (h : wpAny (model prog w) A.in1 (call (.ref f) [.ref x, b]) (fun v s' => ∃ r, v = .bool r ∧ Q (.bool (!r)) s') E s) : wpAny (model prog w) A (richCompare .NotEq (.ref x) b) Q E s := by
  have X := X₀.keeps F.keep
  have one : wpAny (model prog w) A (tryCompare (.ref x) (cmpInfo .NotEq).2.1 b) (fun r s' => ∃ v, r = some v ∧ Q v s') E s := by
    unfold tryCompare
    refine wpAny_bind (ne_bound hu X I c (wpAny_mono h (fun v s' ⟨r, e, q⟩ => ⟨r, e, ?_⟩) fun _ _ e => e))
    exact wpAny_pure ⟨_, rfl, q⟩
  have two : ∀ r s', (∃ v, r = some v ∧ Q v s') → ∃ v, r = some v ∧ Q v s' := fun _ _ z => z
  unfold richCompare
  simp only [oneThing_ref]
  refine wpAny_holding (wpAny_bind (wpAny_cRoomFor hu0 ?_))
  refine wpAny_bind (I.type.here (wpAny_bind (hb.here ?_)))
  split
  · rename_i q
    have e : PySem.W.subIn K tb (.ref C) = some false := by
      rcases Bool.or_eq_true_iff.mp hn with e | e
      · rw [beq_iff_eq.mp e] at q; simp at q
      · exact beq_iff_eq.mp e
    refine wpAny_bind ((looks_subIn X e).here ?_)
    simp only [Bool.false_eq_true, if_false]
    refine wpAny_bind (wpAny_mono one (fun r s' ⟨v, ev, hq⟩ => ?_) fun _ _ e => e)
    subst ev
    exact wpAny_pure hq
  · refine wpAny_bind (wpAny_pure ?_)
    simp only [Bool.false_eq_true, if_false]
    refine wpAny_bind (wpAny_mono one (fun r s' ⟨v, ev, hq⟩ => ?_) fun _ _ e => e)
    subst ev
    exact wpAny_pure hq
end
/-! as rules -/
section
variable {X : Cx} {CX : CXT} {k : Nat} {f C : Addr} {fd : FuncData} {ps : List Str} {sp : Sp} {E : XK}
/-- the other operand: an instance of the same class, an int, a tuple -/
inductive Oth (H : Hp) (C : Addr) : V → Prop where
  | ins {a dx : Addr} {fs : List (Str × V)} (h : H a = some (.ins C dx fs)) : Oth H C (.ref a)
  | int (i : Int) : Oth H C (.int i)
  | tup {a : Addr} {xs : List V} (h : H a = some (.tup xs)) : Oth H C (.ref a)
def rEqO (C : Addr) (sp : Sp) (E : XK) (neg : Bool) : R2 := fun x y H Q =>
  ∃ a dx fs, x = .ref a ∧ H a = some (.ins C dx fs) ∧ Oth H C y ∧ sp [.ref a, y] H (fun v H' => ∃ r, v = .bl r ∧ Q (.bl (if neg then !r else r)) H') E
theorem oth_type {pins : List (Addr × Obj)} {σ : L2.St} {H : Hp} {s : Shared} {y : V} {u : Value} (I : Inv X pins σ H s) (ry : RelV y u) (c : EqC X.K C f) (o : Oth H C y) :
    ∃ tb, PySem.W.Looks (model X.prog X.w) s.heap (typeOf u) tb ∧ PySem.W.notFirst X.K C tb = true := by
  cases o with
  | @ins a dx fs h =>
    obtain rfl : u = Value.ref a := ry
    obtain ⟨mA, O, rr, _, _, _⟩ := ins_get I.hok h
    obtain ⟨od, J, hl⟩ := O.look
    exact ⟨_, J.type, by unfold PySem.W.notFirst; simp⟩
  | int i =>
    obtain ⟨t, rfl⟩ := ry
    exact ⟨.type "int", .now, by unfold PySem.W.notFirst; rw [c.ni]; simp⟩
  | @tup a xs h =>
    obtain rfl : u = Value.ref a := ry
    obtain ⟨_, _, _, ob, h1, h2, _⟩ := (show ObjOk X.prog X.w H s.heap a (.tup xs) from I.hok a _ h)
    exact ⟨.type "tuple", h2 ▸ (PySem.W.Looks.ld h1).andThen .now, by unfold PySem.W.notFirst; rw [c.nt]; simp⟩
theorem op_eq_own (c : EqC X.K C f) (F : FnOk X.prog X.w X.K X.mg X.base CX k f fd ps sp) (hr : Room k X.A) (hb : Binds X.K fd ps []) (hx : Passes CX X E) : OpR X (compareOp .Eq) (rEqO C sp E false) := by
  intro pins s σ H x y v u Q I rx ry ⟨a, dx, fs, ex, ha, o, q⟩
  subst ex
  obtain rfl : v = Value.ref a := rx
  obtain ⟨mA, O, rr, _, _, _⟩ := ins_get I.hok ha
  obtain ⟨od, J, hl⟩ := O.look
  obtain ⟨m0, hF⟩ := I.fr
  obtain ⟨tb, lk, nf⟩ := oth_type I ry c o
  show wpAny _ _ (richCompare .Eq (.ref a) u) _ _ _
  refine cmp_K hr.units0 hF I.ok.mod.kin J lk nf c.eq c.fn (thn (run_sub F ⟨hr, rfl⟩ hb hx I (.cons (relR a) (.cons ry .nil)) q) fun r s' ⟨z, H', I', rz, b, ez, q'⟩ => ?_)
  subst ez
  obtain rfl : r = Value.bool b := rz
  exact ⟨_, H', I', relB b, q'⟩
theorem op_ne_own (c : EqC X.K C f) (F : FnOk X.prog X.w X.K X.mg X.base CX k f fd ps sp) (hr : Room (k + 1) X.A) (hb : Binds X.K fd ps []) (hx : Passes CX X E) : OpR X (compareOp .NotEq) (rEqO C sp E true) := by
  intro pins s σ H x y v u Q I rx ry ⟨a, dx, fs, ex, ha, o, q⟩
  subst ex
  obtain rfl : v = Value.ref a := rx
  obtain ⟨mA, O, rr, _, _, _⟩ := ins_get I.hok ha
  obtain ⟨od, J, hl⟩ := O.look
  obtain ⟨m0, hF⟩ := I.fr
  obtain ⟨tb, lk, nf⟩ := oth_type I ry c o
  show wpAny _ _ (richCompare .NotEq (.ref a) u) _ _ _
  refine ne_K (Room.units0 hr.in1) hr.units0 hF I.ok.mod.kin J lk nf c (thn (run_sub F (Sub.in1 ⟨hr, rfl⟩) hb hx I (.cons (relR a) (.cons ry .nil)) q) fun r s' ⟨z, H', I', rz, b, ez, q'⟩ => ?_)
  subst ez
  exact ⟨b, rz, _, H', I', relB (!b), q'⟩
end
end Tw

set_option Elab.async false
set_option linter.all false
set_option maxRecDepth 100000
set_option maxHeartbeats 4000000
namespace Tw
open PySem PySem.Spec PyProof.Rows L2
/-! enumerate(t), t a tuple -/
def enO (s : Shared) : Obj := { cls := .type "enumerate", data := .fields #[.none, .bool false, .ref s.heap.objs.size, rawInt 0, .none, .none] }
theorem enum_newT (t : Addr) (items : Array Value) :
    Meets (Builtin.«enumerate.__new__» ⟨[.type "enumerate", .ref t], []⟩) (fun _ R s => s.heap.IsTuple t items ∧
      R (.ok (.ret (.ref (s.heap.push (itTup t 0)).objs.size))) { s with heap := (s.heap.push (itTup t 0)).push (enO s) }) :=
  .of_wp fun prog w A R s h => by
    obtain ⟨hp, g, d, tk, os⟩ := s
    obtain ⟨h1, h⟩ := h
    have hsub := sub_enumerate
    have q1 : ∀ {A' : Around} {E : Value → Shared → Prop} {Q : Value → Shared → Prop}, Q (.ref hp.objs.size) ⟨hp.push (itTup t 0), g, d, tk, os⟩ → wpAny (model prog w) A' (pyIter (.ref t)) Q E ⟨hp, g, d, tk, os⟩ :=
      fun q => wpAny_pyIter_tuple (s := ⟨hp, g, d, tk, os⟩) h1 q
    wp_walk using q1
    refine wpAny_stack_any fun st => wpAny_pure ?_
    split
    · rename_i c _ _ _ _ _
      cases (c == Value.type "enumerate")
      · wp_walk using q1
        exact ⟨_, rfl, h⟩
      · wp_walk using q1
        exact ⟨_, rfl, h⟩
    · wp_walk using q1
      exact ⟨_, rfl, h⟩
section
variable {prog : Program} {w : World} {A : Around} {E : Value → Shared → Prop} {s : Shared}
theorem call_enumT {t : Addr} {items : Array Value} {Q : Value → Shared → Prop} (hT : s.heap.IsTuple t items)
    (h : ∀ h', IsEnum h' (s.heap.objs.size + 1) s.heap.objs.size 0 .none → h'.IsTupleIter s.heap.objs.size t 0 → h'.objs.size = s.heap.objs.size + 2 →
      (∀ b o, s.heap.get? b = some o → h'.get? b = some o) → Q (.ref (s.heap.objs.size + 1)) { s with heap := h' }) :
    wpAny (model prog w) A (call (.type "enumerate") [.ref t]) Q E s := by
  refine callType_new F.called_enumerate (by decide) (F.typeCall_enumerate_1 _) (F.newCall_enumerate_1 _) (fun obj => F.args_object_init_2 obj _) F.entry_enumerate_new (enum_newT t items) ⟨hT, ?_⟩
  have hz : (s.heap.push (itTup t 0)).objs.size = s.heap.objs.size + 1 := Heap.size_push ..
  show _ ∧ _
  rw [hz]
  have he : IsEnum ((s.heap.push (itTup t 0)).push (enO s)) (s.heap.objs.size + 1) s.heap.objs.size 0 .none := by
    have q := Heap.get?_push_size (s.heap.push (itTup t 0)) (o := enO s) rfl
    rw [hz] at q
    exact q
  have hi : ((s.heap.push (itTup t 0)).push (enO s)).IsTupleIter s.heap.objs.size t 0 := ⟨_, Heap.get?_push_of_some _ (Heap.get?_push_size _ rfl), rfl, rfl⟩
  exact ⟨⟨_, he, rfl⟩, h _ he hi (by rw [Heap.size_push, hz]) fun b o x => Heap.get?_push_of_some _ (Heap.get?_push_of_some _ x)⟩
end
def IteT (K : PySem.W.Frag) (a : Addr) : It :=
  ⟨fun i H => ∃ (xs : List V) (x : V), SqT K H a xs ∧ xs[i]? = some x, fun i H v H' => ∃ T x, v = .ref T ∧ H T = Option.none ∧ H' = upd H T (.tup [.int (i : Nat), x]) ∧ ∀ xs, SqT K H a xs → xs[i]? = some x, fun i H => ∃ xs : List V, SqT K H a xs ∧ xs.length = i⟩
theorem turn_enumT {P : Program} {w : World} {K : PySem.W.Frag} {elts : List Expr} {kk : Nat} {tpos : Pos} (a e it : Addr) :
    Turn P w K (.Tuple elts kk tpos) (IteT K a) [e, it] e (fun i h => (∃ old, IsEnum h e it ((i : Nat) : Int) old) ∧ h.IsTupleIter it a i ∧ e ≠ it) where
  mem := by simp
  obj := fun i h st b hb => by
    obtain ⟨⟨old, he⟩, ⟨o, ho, hc, hd⟩, _⟩ := st
    rcases (show b = e ∨ b = it by simpa using hb) with rfl | rfl
    · exact ⟨_, he, fun v q => nomatch q⟩
    · exact ⟨o, ho, fun v q => by rw [hd] at q; cases q⟩
  keep := fun i h h' st k => let ⟨⟨old, he⟩, hi, hne⟩ := st; ⟨⟨old, k e (by simp) _ he⟩, hi.at fun o q => k it (by simp) o q, hne⟩
  item := by
    intro X hP hw hK hc i pins s σ H E I hf st hg
    subst hP hw hK
    obtain ⟨⟨old, he⟩, hit, hne⟩ := st
    obtain ⟨xs, x, hq, hx⟩ := hg
    obtain ⟨its, rv, p, hz⟩ := I.tuple hq
    have hil : i < xs.length := (List.getElem?_eq_some_iff.mp hx).1
    have hlen := rv.length
    have hel : e < s.heap.objs.size := Heap.lt_size he
    have hitl : it < s.heap.objs.size := by obtain ⟨_, q, _⟩ := hit; exact Heap.lt_size q
    have hae : e ≠ a := fun z => by
      obtain ⟨oo, h1, h2, _⟩ := p
      rw [← z, he] at h1
      cases h1
      injection h2 with q
      exact absurd q (by decide)
    have hia : it ≠ a := fun z => by
      obtain ⟨oo, h1, h2, _⟩ := p
      obtain ⟨o2, h3, h4, _⟩ := hit
      rw [← z, h3] at h1
      cases h1
      rw [h4] at h2
      injection h2 with q
      exact absurd q (by decide)
    have D := Draws.tuple (prog := X.prog) (w := X.w) (A := X.A.in1) (I.ok.hd hc) it a hia.symm its.toArray
    refine wpAny_pyNext_enum_itemD D he ⟨hit, p⟩ (by rw [List.size_toArray]; omega) hne (by simp [hne, hae]) fun u h' tk hu ho hst hT hsz hk => ?_
    obtain ⟨u2, hu2, ru⟩ := rv.get hx
    obtain rfl : u = u2 := by
      rw [List.getElem?_toArray] at hu
      exact Option.some.inj (hu.symm.trans hu2)
    refine ⟨_, rfl, wpAny_letOwnedTupleGo_enum (s := { s with heap := h', toks := tk + 1 }) ho fun h'' he' sb => ?_⟩
    have hT2 : h''.get? s.heap.objs.size = some { cls := .type "tuple", data := .seq #[.int i tk, u] } := (sb.2 _ (Nat.ne_of_gt hel)).trans hT
    have new : ObjOk X.prog X.w (upd H s.heap.objs.size (.tup [.int (i : Nat), x])) h'' s.heap.objs.size (.tup [.int (i : Nat), x]) :=
      ⟨by show 2 ≤ sizeLine; decide, [.int i tk, u], .cons ⟨_, rfl⟩ (.cons ru .nil), ⟨_, hT2, rfl, _, rfl⟩⟩
    have I1 : Inv X pins σ (upd H s.heap.objs.size (.tup [.int (i : Nat), x])) { s with heap := h'', toks := tk + 1 } :=
      I.turnedNew (ch := [e, it]) (fun b ob hb q => (sb.2 b (fun z => hb (by simp [z]))).trans (hk b ob (fun z => hb (by simp [z])) (fun z => hb (by simp [z])) q)) hf (Nat.le_refl _) new
    refine ⟨.ref s.heap.objs.size, _, I1, rfl, ⟨_, x, rfl, I.hok.fresh (Nat.le_refl _), rfl, fun ys hy => by rw [I.tuple_inj hy hq]; exact hx⟩, ⟨⟨u, ?_⟩, hst.1.at fun o q => (sb.2 it (Ne.symm hne)).trans q, hne⟩, fun b hb => ?_⟩
    · rw [show ((i + 1 : Nat) : Int) = (i : Int) + 1 by omega]
      exact he'
    · have hb' : b < s.heap.objs.size := by
        rcases (show b = e ∨ b = it by simpa using hb) with rfl | rfl
        · exact hel
        · exact hitl
      rw [upd_ne (Nat.ne_of_lt hb')]
      exact (hf b hb).1
  done := by
    intro X hP hw hK hc i pins s σ H E I hf st hg
    subst hP hw hK
    obtain ⟨⟨old, he⟩, hit, hne⟩ := st
    obtain ⟨xs, hq, hx⟩ := hg
    obtain ⟨its, rv, p, hz⟩ := I.tuple hq
    obtain ⟨f0, f1, f2, f3, f4, f5⟩ := hf it (by simp)
    have hlen := rv.length
    have hae : e ≠ a := fun z => by
      obtain ⟨oo, h1, h2, _⟩ := p
      rw [← z, he] at h1
      cases h1
      injection h2 with q
      exact absurd q (by decide)
    have hia : it ≠ a := fun z => by
      obtain ⟨oo, h1, h2, _⟩ := p
      obtain ⟨o2, h3, h4, _⟩ := hit
      rw [← z, h3] at h1
      cases h1
      rw [h4] at h2
      injection h2 with q
      exact absurd q (by decide)
    have D := Draws.tuple (prog := X.prog) (w := X.w) (A := X.A.in1) (I.ok.hd hc) it a hia.symm its.toArray
    have en : its.toArray.size = i := by rw [List.size_toArray]; omega
    refine wpAny_pyNext_enum_endD D he (by rw [en]; exact ⟨hit, p⟩) fun h' eb => ⟨rfl, I.turned (t' := s.toks) (fun b o hb q => eb b o hb q) f0 f1 f3 f4 f5⟩
  self := fun A i s Q E st h => let ⟨⟨_, he⟩, _⟩ := st; wpAny_pyIter_enum he h
theorem walk_enumT {K : PySem.W.Frag} {a : Addr} {xs : List V} : Walk (IteT K a) xs.length (fun H => SqT K H a xs) (YPair (fun i => some (.int (i : Nat))) (fun i => xs[i]?)) := by
  refine ⟨fun i _ hi q => ⟨xs, xs[i], q, by simp [hi]⟩, fun _ q => ⟨xs, q, rfl⟩, fun i H v H' _ q y => ?_⟩
  obtain ⟨T, x, h1, h2, h3, h4⟩ := y
  exact ⟨T, .int (i : Nat), x, h1, h2, h3, rfl, h4 xs q⟩
/-- enumerate of a list or of a tuple -/
def iEnS (K : PySem.W.Frag) (ta : TA) : TI := fun σ H R => ta σ H fun vs H1 => ∃ a xs, vs = [.ref a] ∧ ((SqL K H1 a xs ∧ R (Ite K a) H1) ∨ (SqT K H1 a xs ∧ R (IteT K a) H1))
theorem pi_enS {X : Cx} {e : Expr} {ta : TA} {p pos tpos : Pos} {elts : List Expr} {kk : Nat} (hg : Gl X "enumerate") (hm : X.mg "enumerate" = Option.none) (ha : PA X [e] ta) (hs : starEach [e] X.env = [(false, eval e X.env)] := by rfl) :
    PI X (.Tuple elts kk tpos) (.Call (.Name "enumerate" p) [e] [] pos) (iEnS X.K ta) := by
  refine ⟨fun pins s σ H R I h => ?_⟩
  refine Call_ (ld_blt I hg hm boot_enumerate (PyProof.Rows.callWith_type1 (thn (ha.run pos pins s σ H _ I h) fun us s1 ⟨vs, H1, I1, r1, a, xs, ex, q1⟩ => ?_) hs rfl))
  subst ex
  obtain ⟨u, rfl, ru⟩ := r1.one
  obtain rfl : u = Value.ref a := ru
  have fr : ∀ b ∈ [s1.heap.objs.size + 1, s1.heap.objs.size], FpOk X pins H1 b := fun b hb => by
    have hle : s1.heap.objs.size ≤ b := by
      rcases (show b = s1.heap.objs.size + 1 ∨ b = s1.heap.objs.size by simpa using hb) with z | z <;> omega
    exact I1.fpOk hle (I1.hok.fresh hle)
  rcases q1 with ⟨hq, q⟩ | ⟨hq, q⟩
  · obtain ⟨its, rv, p', hz⟩ := I1.list hq
    exact call_enumerate_list p'.isList fun h' he hit hsz hk => wpAny_pyIter_enum he ⟨_, _, _, _, H1, rfl, I1.kept (t' := s1.toks) hk, turn_enum a (s1.heap.objs.size + 1) s1.heap.objs.size, ⟨⟨.none, he⟩, hit, Nat.succ_ne_self _⟩, fr, q⟩
  · obtain ⟨its, rv, p', hz⟩ := I1.tuple hq
    exact call_enumT p' fun h' he hit hsz hk => wpAny_pyIter_enum he ⟨_, _, _, _, H1, rfl, I1.kept (t' := s1.toks) hk, turn_enumT a (s1.heap.objs.size + 1) s1.heap.objs.size, ⟨⟨.none, he⟩, hit, Nat.succ_ne_self _⟩, fr, q⟩
end Tw

set_option Elab.async false
set_option linter.all false
set_option maxRecDepth 100000
set_option maxHeartbeats 2000000
/-! own rules: min(xs, key=lambda x: ys[x]), ys a name of the def -/
namespace Cl
open PySem PySem.Spec PyProof.Rows L2 LamX
section
variable {prog : Program} {w : World} {A : Around} {E : Value → Shared → Prop} {s : Shared}
/-- what the lambda's scope must say -/
structure LSc (scope : Scope) (x y : Str) : Prop where
  kind : scope.kind = .function
  co : scope.isCoroutine = false
  gen : scope.isGenerator = false
  nocell : ∀ z ∈ scope.names, z.2 ≠ .cell
  px : scope.names.lookup x = some .local
  fy : scope.names.lookup y = some .free
/-- lambda x: y[x], called with an int -/
theorem lam_ix {f l c' ck : Addr} {q x y : Str} {params : Arguments} {p1 p2 p3 : Pos} {scope : Scope} {cl : List (Str × Addr)} {pm ctv u : Value} {vs : List Value} {i : Int} {t : Tok} {Q : Value → Shared → Prop}
    (S : LSc scope x y) (hd : A.depth < recursionLimit) (hf : s.heap.get? f = some (PySem.W.kla_obj "<lambda>" q params (.Subscript (.Name y p1) (.Name x p2) p3) scope cl pm c' ctv))
    (hbind : ∀ v : Value, bindArgs (PySem.W.kla_fn "<lambda>" q params (.Subscript (.Name y p1) (.Name x p2) p3) scope cl pm (.ref c') ctv) ⟨[v], []⟩ = pure [(x, v)])
    (hcode : ∃ (oc : Obj) (us : Array Value) (tk : Tok), s.heap.get? c' = some oc ∧ oc.data = .fields us ∧ us[1]? = some (.str q tk)) (hlim : s.heap.NoLimit)
    (hck : cl.lookup y = some ck) (hcell : s.heap.IsCell ck (some (.ref l))) (hl : s.heap.IsList l vs.toArray) (h0 : 0 ≤ i) (h1 : i < 2 ^ 63) (hi : vs[i.toNat]? = some u)
    (hdx : (x == ("__debug__" : Str)) = false) (hdy : (y == ("__debug__" : Str)) = false) (hcy : (y == ("__classdict__" : Str)) = false)
    (h : ∀ h' tk, s.toks ≤ tk → (∀ b o, s.heap.get? b = some o → h'.get? b = some o) → Q u { s with heap := h', toks := tk }) : wpAny (model prog w) A (call (.ref f) [.int i t]) Q E s := by
  obtain ⟨oc, us, tq, hoc, hdc, hvc⟩ := hcode
  refine wpAny_call (PySem.W.kla_callFunE hd hf rfl S.co S.gen rfl ⟨c', oc, us, tq, rfl, hoc, hdc, hvc⟩ ?_)
  rw [hbind]
  refine wpAny_pure (wpAny_newFunctionEnv S.nocell (fun z hz => by rw [List.mem_singleton.mp hz]; exact S.px) (fun h₁ hns hsb => ⟨hlim.fresh _ hsb, ?_⟩) S.kind)
  have kp : ∀ b o, s.heap.get? b = some o → h₁.get? b = some o := fun b o e => hsb.extBut b o (Nat.ne_of_lt (Heap.lt_size e)) (Heap.get?_push_of_some _ e)
  refine PySem.W.kla_codeExpr ?_
  refine wpAny_Subscript_Name list_getitem_lookup ?_
  refine wpAny_Name (wpAny_loadName_free S.kind S.fy hck (hcell.keeps kp) ?_ hcy) hdy
  refine wpAny_Name (wpAny_loadName_local S.kind S.px hns (v := .int i t) ?_ ?_) hdx
  · simp [List.lookup]
  · have hl' : h₁.IsList l vs.toArray := hl.at fun o e => kp _ _ e
    refine ⟨hl'.typeIs, wpAny_getItem_list hl' h0 h1 (by simpa using hi) ?_⟩
    exact h h₁ _ (by show s.toks ≤ s.toks + _; omega) kp
/-- what a lambda x: y[x] is, and what it reads -/
structure LamAt (h : Heap) (f : Addr) (x y : Str) (q : Str) (params : Arguments) (p1 p2 p3 : Pos) (scope : Scope) (cl : List (Str × Addr)) (pm ctv : Value) (c' ck l : Addr) (us : List Value) : Prop where
  fn : h.get? f = some (PySem.W.kla_obj "<lambda>" q params (.Subscript (.Name y p1) (.Name x p2) p3) scope cl pm c' ctv)
  code : ∃ (oc : Obj) (us : Array Value) (tk : Tok), h.get? c' = some oc ∧ oc.data = .fields us ∧ us[1]? = some (.str q tk)
  lim : h.NoLimit
  hck : cl.lookup y = some ck
  cell : h.IsCell ck (some (.ref l))
  lst : h.IsList l us.toArray
theorem LamAt.keeps {h h' : Heap} {f : Addr} {x y : Str} {q : Str} {params : Arguments} {p1 p2 p3 : Pos} {scope : Scope} {cl : List (Str × Addr)} {pm ctv : Value} {c' ck l : Addr} {us : List Value}
    (L : LamAt h f x y q params p1 p2 p3 scope cl pm ctv c' ck l us) (k : ∀ b o, h.get? b = some o → h'.get? b = some o) : LamAt h' f x y q params p1 p2 p3 scope cl pm ctv c' ck l us :=
  ⟨k _ _ L.fn, let ⟨oc, us, tk, a, b, c⟩ := L.code; ⟨oc, us, tk, k _ _ a, b, c⟩, L.lim.keeps k, L.hck, L.cell.keeps k, L.lst.at fun o e => k _ _ e⟩
theorem min_lam {f a l c' ck : Addr} {q x y : Str} {params : Arguments} {p1 p2 p3 : Pos} {scope : Scope} {cl : List (Str × Addr)} {pm ctv : Value} {cs us : List Value} {ns : Nat → Int} {kf : Nat → Int} {Q : Value → Shared → Prop}
    (hh : A.handled = none) (S : LSc scope x y) (hd : A.depth < recursionLimit) (L : LamAt s.heap f x y q params p1 p2 p3 scope cl pm ctv c' ck l us)
    (hbind : ∀ v : Value, bindArgs (PySem.W.kla_fn "<lambda>" q params (.Subscript (.Name y p1) (.Name x p2) p3) scope cl pm (.ref c') ctv) ⟨[v], []⟩ = pure [(x, v)])
    (hdx : (x == ("__debug__" : Str)) = false) (hdy : (y == ("__debug__" : Str)) = false) (hcy : (y == ("__classdict__" : Str)) = false)
    (ht : s.heap.IsTuple a cs.toArray) (hc : ∀ i, i < cs.length → ∃ t, cs[i]? = some (.int (ns i) t)) (hne : 0 < cs.length)
    (hk : ∀ i, i < cs.length → 0 ≤ ns i ∧ ns i < 2 ^ 63 ∧ ∃ t, us[(ns i).toNat]? = some (.int (kf i) t))
    (h : ∀ v h' tk, cs[argBest (fun i j => decide (kf i < kf j)) (cs.length - 1)]? = some v → (∀ b o, s.heap.get? b = some o → h'.get? b = some o) → Q v { s with heap := h', toks := tk }) :
    wpAny (model prog w) A (call (.builtin "min") [.ref a] [(Str.ofString "key", .ref f)]) Q E s := by
  have hd1 : A.in1.depth < recursionLimit := hd
  refine call_min_walkK (PySem.W.iter_tupleW (A := A.in1) hh ht fun s₂ e2 W st hfp hfr kp2 => ?_)
  have sz2 : s.heap.objs.size < s₂.heap.objs.size := hfp _ List.mem_cons_self
  have old : ∀ {s' : Shared}, Moved [s₂.heap.objs.size, s.heap.objs.size] (fun a b => b = a) s₂ s' → ∀ b o, s.heap.get? b = some o → s'.heap.get? b = some o := fun {s'} m b o e => by
    have lt := Heap.lt_size e
    refine m.heap b o (fun hm => ?_) (kp2 b o e)
    rcases List.mem_cons.mp hm with z | hm
    · rw [z] at lt
      exact Nat.lt_irrefl _ (Nat.lt_trans lt sz2)
    · rw [List.mem_singleton.mp hm] at lt
      exact Nat.lt_irrefl _ lt
  have szc : cs.toArray.size = cs.length := by simp
  refine ⟨s.heap.objs.size, [s.heap.objs.size, a], [s.heap.objs.size], (fun a b => b = a), cs.toArray.size, _, _, fun s' => Moved [s₂.heap.objs.size, s.heap.objs.size] (fun a b => b = a) s₂ s', fun i k _ => ∃ t, k = .int (kf i) t, fun i j => decide (kf i < kf j), rfl, W, st, hfp, by rw [szc]; exact hne, ⟨?_, ?_, ?_, ?_⟩, Moved.refl fun _ => rfl, ?_⟩
  · exact fun s1 s' J m => J.trans (fun _ _ _ h1 h2 => h2.trans h1) m
  · exact fun i k s1 s' v _ => v
  · intro i v s1 o Q' E' hi hP J stI hS cont
    rw [szc] at hi
    obtain ⟨t, ec⟩ := hc i hi
    have ev : v = .int (ns i) t := by
      have hP' : cs[i]? = some v := by simpa using hP
      rw [ec] at hP'
      exact (Option.some.inj hP').symm
    subst ev
    obtain ⟨h0, h1, tk, eu⟩ := hk i hi
    have L1 := L.keeps (old J)
    refine lam_ix S hd1 L1.fn hbind L1.code L1.lim L1.hck L1.cell L1.lst h0 h1 eu hdx hdy hcy fun h' tk' hle kp => ?_
    exact cont _ _ (J.then_heap hle fun b o _ e => kp b o e) (W.frame _ s1 h' tk' stI hle fun b _ o e => kp b o e) (kp _ _ hS) ⟨_, rfl⟩ fun j k' z => z
  · intro i j ki kj s1 Q' E' J vi vj q
    exact CmpOf.ints_lt (prog := prog) (w := w) (A := A.in1) (P := fun i v => ∃ t, v = .int (kf i) t) kf (fun i v h => h) i j ki kj s1 Q' E' vi vj q
  · intro v s' hP J
    rw [szc] at hP
    have hP' : cs[argBest (fun i j => decide (kf i < kf j)) (cs.length - 1)]? = some v := by simpa using hP
    have e : s' = { s with heap := s'.heap, toks := s'.toks } := by
      obtain ⟨hp, g, d, tk, os⟩ := s'
      subst e2
      have h1 : g = s.gens := J.gens
      have h2 : d = s.drawn := J.drawn
      have h3 : os = s.os := J.os
      subst h1 h2 h3
      rfl
    rw [e]
    exact h v s'.heap s'.toks hP' (old J)
end
/-- the first of the least -/
def FirstLeast (kf : Nat → Int) (n j : Nat) : Prop := j < n ∧ (∀ i, i < n → kf j ≤ kf i) ∧ ∀ i, i < j → kf j < kf i
theorem best_is (kf : Nat → Int) : ∀ n, FirstLeast kf (n + 1) (argBest (fun i j => decide (kf i < kf j)) n)
  | 0 => ⟨Nat.zero_lt_one, fun i h => by rw [Nat.lt_one_iff.mp h]; exact Int.le_refl _, fun i h => nomatch h⟩
  | n + 1 => by
    obtain ⟨a, b, c⟩ := best_is kf n
    show FirstLeast kf (n + 2) (if decide (kf (n + 1) < kf (argBest (fun i j => decide (kf i < kf j)) n)) = true then n + 1 else argBest (fun i j => decide (kf i < kf j)) n)
    by_cases h : kf (n + 1) < kf (argBest (fun i j => decide (kf i < kf j)) n)
    · rw [if_pos (decide_eq_true h)]
      refine ⟨by omega, fun i hi => ?_, fun i hi => ?_⟩
      · by_cases e : i = n + 1
        · rw [e]
          exact Int.le_refl _
        · have := b i (by omega)
          omega
      · have := b i (by omega)
        omega
    · rw [if_neg (fun z => h (of_decide_eq_true z))]
      refine ⟨by omega, fun i hi => ?_, c⟩
      by_cases e : i = n + 1
      · rw [e]
        omega
      · exact b i (by omega)
theorem first_one {kf : Nat → Int} {n i j : Nat} (a : FirstLeast kf n i) (b : FirstLeast kf n j) : i = j := by
  rcases Nat.lt_trichotomy i j with h | h | h
  · have h1 := b.2.2 i h
    have h2 := a.2.1 j b.1
    omega
  · exact h
  · have h1 := a.2.2 j h
    have h2 := b.2.1 i a.1
    omega
/-- the item of ns whose key in ks is the least, the first such one -/
def LeastAt (ks ns : List Int) (m : Int) : Prop := ∃ j, FirstLeast (fun i => ks.getD (ns.getD i 0).toNat 0) ns.length j ∧ m = ns.getD j 0
theorem _root_.LamX.ExtN.rd {H H' : Hp} (e : ExtN H H') {a : Addr} {u : HO} (n : ∀ ps, u ≠ .tbl ps) (h : Rd H a u) : Rd H' a u := by
  rcases h with h | ⟨o, h⟩
  · exact .inl (e _ _ h n)
  · exact .inr ⟨o, e _ _ h fun ps z => nomatch z⟩
theorem _root_.LamX.ExtN.sqL {K : PySem.W.Frag} {H H' : Hp} (e : ExtN H H') {a : Addr} {xs : List V} (h : SqL K H a xs) : SqL K H' a xs := h.elim (fun h => .inl (e.rd (fun ps z => nomatch z) h)) .inr
theorem _root_.LamX.ExtN.sqT {K : PySem.W.Frag} {H H' : Hp} (e : ExtN H H') {a : Addr} {xs : List V} (h : SqT K H a xs) : SqT K H' a xs := h.elim (fun h => .inl (e.rd (fun ps z => nomatch z) h)) .inr
section
variable {X : Cx}
def tMinLam (K : PySem.W.Frag) (T : List (Addr × Str)) (j : Nat) (te : TE) : TE := fun σ H Q => te σ H fun v H1 => ∃ (a l : Addr) (ns ks : List Int), v = .ref a ∧ SqT K H1 a (ns.map V.int) ∧ σ[j]? = some (some (.ref l)) ∧ SqL K H1 l (ks.map V.int) ∧ 0 < ns.length ∧ (∀ n ∈ ns, 0 ≤ n ∧ n < ks.length) ∧
  Tabs T H1 ∧ ∀ (m : Int) (H2 : Hp), ExtN H1 H2 → Tabs T H2 → LeastAt ks ns m → Q (.int m) H2
/-- min(e, key=lambda x: y[x]), y a name of the def that it shares with the lambda -/
theorem pe_minlam {T : List (Addr × Str)} {c P : Addr} {p p1 p2 p3 lpos kpos pos : Pos} {e : Expr} {te : TE} {x y : Str} {j : Nat} {params : Arguments} {scope : Scope}
    (hg : Gl X "min") (hm : X.mg "min" = none) (he : PE X e te) (hd : X.A.depth < recursionLimit) (hh : X.A.handled = none) (TB : TabB X.base X.mg c P) (hcode : X.env.code = .ref c) (hmT : (P, X.env.qual ++ "<lambda>") ∈ T)
    (hu : ∀ q ∈ T, q.1 = P → q.2 = X.env.qual ++ "<lambda>") (S : LSc scope x y) (hfy : X.env.scope.names.lookup y = some .cell) (hfr : ∀ z ∈ scope.names, z.2 = .free → z.1 = y) (hN : X.N[j]? = some y) (hdef : defaultsOf params X.env = ([], []))
    (hbind : ∀ (q : Str) (cl : List (Str × Addr)) (pm cv ctv v : Value), bindArgs (PySem.W.kla_fn "<lambda>" q params (.Subscript (.Name y p1) (.Name x p2) p3) scope cl pm cv ctv) ⟨[v], []⟩ = pure [(x, v)])
    (hs : starEach [e] X.env = (false, eval e X.env) :: starEach [] X.env := by rfl)
    (hdx : (x == ("__debug__" : Str)) = false := by decide) (hdy : (y == ("__debug__" : Str)) = false := by decide) (hcy : (y == ("__classdict__" : Str)) = false := by decide) :
    PE X (.Call (.Name "min" p) [e] [⟨some "key", .Lambda params (.Subscript (.Name y p1) (.Name x p2) p3) scope lpos, kpos⟩] pos) (tMinLam X.K T j te) := by
  refine ⟨fun pins s σ H Q I h => ?_⟩
  have hfree : ∀ z ∈ scope.names, z.2 = .free → ∃ c, X.env.cells.lookup z.1 = some c := fun z hz e => I.ok.has _ (.inl (by rw [hfr z hz e]; exact hfy))
  refine wpAny_Call_Name_kw (ld_blt I hg hm (u := .builtin "min") (by decide +kernel) ?_)
  refine PyProof.Rows.callWith_kw ?_ (by rw [hs]; rfl) (by rw [hs]; rfl) (by rfl) (by rfl)
  rw [hs]
  show wpAny _ _ (spliced ((false, eval e X.env) :: backTo pos (starEach [] X.env))) _ _ s
  refine Calls.spliced_cons (thn (he.run pins s σ H _ I h) fun u s1 ⟨v, H1, I1, r1, a, l, ns, ks, ev, ht, hσ, hl, hne, hin, hT, q⟩ => Calls.spliced_nil ?_)
  subst ev
  obtain rfl : u = Value.ref a := r1
  show wpAny _ _ (evalAll ((do let v ← eval (.Lambda params (.Subscript (.Name y p1) (.Name x p2) p3) scope lpos) X.env; standAt pos; pure v) :: [])) _ _ s1
  refine wpAny_evalAll_cons (wpAny_bind (lam_make2 I1 TB hcode hmT hu hT hdef hfree fun f c' pm ctv H2 s2 I2 eN T2 hf hfn hff hco => wpAny_bind (wpAny_standAt (wpAny_pure (wpAny_evalAll_nil ?_)))))
  show wpAny _ _ (call (.builtin "min") [.ref a] [(Str.ofString "key", .ref f)]) _ _ s2
  obtain ⟨cs, rc, tc, _⟩ := I2.tuple (eN.sqT ht)
  obtain ⟨us, ru, pl, hz2⟩ := I2.list (eN.sqL hl)
  obtain ⟨m, _, look⟩ := I2.loc
  obtain ⟨u0, r0, lk⟩ := look j y _ hN hσ (.inr (.inl hfy))
  obtain rfl : u0 = Value.ref l := r0
  have cellAt : ∃ ck, X.env.cells.lookup y = some ck ∧ s2.heap.IsCell ck (some (.ref l)) := by
    rcases lk with ⟨k, _⟩ | ⟨_, ck, e1, e2⟩
    · rw [show X.env.kindOf y = some .cell from hfy] at k
      cases k
    · exact ⟨ck, e1, e2⟩
  obtain ⟨ck, eck, hcell⟩ := cellAt
  obtain ⟨⟨oc, vs, tk, o1, o2, o3⟩, _, _⟩ := I2.hok c' _ hco
  have lc : cs.length = ns.length := by rw [← rc.length, List.length_map]
  have lu : us.length = ks.length := by rw [← ru.length, List.length_map]
  have nsAt : ∀ i, i < ns.length → ∃ t, cs[i]? = some (.int (ns.getD i 0) t) := fun i hi => by
    obtain ⟨z, ez, rz⟩ := rc.get (i := i) (x := V.int (ns.getD i 0)) (by rw [List.getElem?_map, List.getD_eq_getElem?_getD, List.getElem?_eq_getElem hi]; rfl)
    obtain ⟨t, rfl⟩ := rz
    exact ⟨t, ez⟩
  refine min_lam (ns := fun i => ns.getD i 0) (kf := fun i => ks.getD (ns.getD i 0).toNat 0) hh S hd ⟨hf, ⟨oc, vs, tk, o1, o2, o3⟩, I2.nolimit, NdefX.clo_has hfree (PySem.mem_of_lookup S.fy) eck, hcell, pl.isList⟩ (fun v => hbind _ _ _ _ _ v) hdx hdy hcy tc (fun i hi => nsAt i (by omega)) (by omega)
    (fun i hi => ?_) fun v h' tk2 hv kp => ?_
  · have hi' : i < ns.length := by omega
    have hmem : ns.getD i 0 ∈ ns := by rw [List.getD_eq_getElem?_getD, List.getElem?_eq_getElem hi']; exact List.getElem_mem hi'
    obtain ⟨b0, b1⟩ := hin _ hmem
    have hs63 := line63
    rw [List.length_map] at hz2
    have hk' : (ns.getD i 0).toNat < ks.length := by omega
    obtain ⟨z, ez, rz⟩ := ru.get (i := (ns.getD i 0).toNat) (x := V.int (ks.getD (ns.getD i 0).toNat 0)) (by rw [List.getElem?_map, List.getD_eq_getElem?_getD (l := ks), List.getElem?_eq_getElem hk']; rfl)
    obtain ⟨t, rfl⟩ := rz
    exact ⟨b0, by omega, t, ez⟩
  · obtain ⟨n, en⟩ : ∃ n, ns.length = n + 1 := ⟨ns.length - 1, by omega⟩
    have fl := best_is (fun i => ks.getD (ns.getD i 0).toNat 0) n
    rw [← en] at fl
    rw [lc, show ns.length - 1 = n by omega] at hv
    obtain ⟨t, et⟩ := nsAt _ fl.1
    rw [et] at hv
    cases hv
    exact ⟨.int _, H2, I2.kept kp, ⟨t, rfl⟩, q _ H2 eN T2 ⟨_, fl, rfl⟩⟩
end
end Cl

set_option Elab.async false
set_option linter.all false
set_option maxRecDepth 100000
set_option maxHeartbeats 2000000
/-! own rule: list(o), o an instance with an __iter__ over its tuple and a __len__ -/
namespace Tw
open PySem PySem.Spec PyProof.Rows L2
def rListO (K : PySem.W.Frag) (C : Addr) (fld : Str) (sp : Sp) (E : XK) : List V → Hp → VK → Prop := fun xs H Q => ∃ (a dx : Addr) (fs : List (Str × V)) (t : Addr) (zs : List V), xs = [.ref a] ∧ H a = some (.ins C dx fs) ∧ fs.lookup fld = some (.ref t) ∧ SqT K H t zs ∧ zs.length ≤ 900 ∧
  sp [.ref a] H (fun v H' => ∃ n : Nat, v = .int n ∧ n < 1000 ∧ H' = H) E ∧ ∀ q, H q = none → Q (.ref q) (upd H q (.lst zs))
theorem ty_ne {a b : String} (h : Value.type a = Value.type b) (n : decide (a = b) = false) : False := by
  injection h with h
  exact of_decide_eq_false n h
theorem if_yes {α : Type} {M : Model} {A : Around} {E : Value → Shared → Prop} {s : Shared} {c : Bool} {a b : Sem α} {Q : α → Shared → Prop} (hc : c = true) (h : wpAny M A a Q E s) : wpAny M A (if c = true then a else b) Q E s := by
  rw [hc, if_pos rfl]
  exact h
section
variable {X : Cx} {k : Nat} {f : Addr} {fd : FuncData} {ps : List Str} {sp : Sp} {A1 : Around} {pins : List (Addr × Obj)} {σ : L2.St} {H : Hp} {s : Shared} {Q : VK}
/-- a def that raises nothing, called within a built-in -/
theorem run_sub0 {us : List Value} {vs : List V} {R : Value → Shared → Prop} (F : FnOk X.prog X.w X.K X.mg X.base CX0 k f fd ps sp) (sb : Sub X k A1) (hb : L2.Binds X.K fd ps []) (I : Inv X pins σ H s) (r : Vals vs us) (h : sp vs H Q E0) :
    wpAny (model X.prog X.w) A1 (call (.ref f) us) (EP X pins σ Q) R s := by
  have hl : us.length = ps.length := by rw [← r.length]; exact F.len _ _ _ _ h
  have hb1 : BindsTo s fd ⟨us, []⟩ (ps.zip us) := by
    have z := hb s us I.kIn (by rw [List.append_nil]; exact hl)
    rw [List.append_nil] at z
    exact z
  refine wpAny_call (codeAny_mono (F.run A1 X.stack s H ⟨us, []⟩ us vs Q E0 sb.room (Sub.env0 sb I) hb1 r h) fun z s' hq => ?_)
  match z, hq with
  | .error e, hq => exact False.elim hq
  | .ok (.ret u), hq => exact I.after hq
  | .ok .next, hq => exact False.elim hq
  | .ok .brk, hq => exact False.elim hq
  | .ok .cont, hq => exact False.elim hq
end
section
variable {X : Cx} {kI k : Nat} {fi fl C : Addr} {fdI fdL : FuncData} {psL : List Str} {spL : Sp} {fld : Str}
theorem call_listO (hdI : Dn X.K C "__iter__" fi) (FI : FnIt X.prog X.w X.K X.mg X.base k fi fdI ["self"] (spIter X.K C fld)) (bI : L2.Binds X.K fdI ["self"] [])
    (hdL : Dn X.K C "__len__" fl) (FL : FnOk X.prog X.w X.K X.mg X.base CX0 k fl fdL psL spL) (bL : L2.Binds X.K fdL psL []) (hr : Room (k + 3) X.A) : CallR X (.type "list") (rListO X.K C fld spL E0) := by
  intro pins s σ H xs us Q I rv h
  obtain ⟨a, dx, fs, t, zs, rfl, ha, hf, ht, hz, hlen, q⟩ := h
  obtain ⟨u, rfl, ru⟩ := rv.one
  cases ru
  have sb1 : Sub X (k + 1) X.A.in1.in1 := Sub.in1 (Sub.in1 (⟨hr, rfl⟩ : Sub X (k + 3) X.A))
  have sb : Sub X k X.A.in1.in1 := sb1.mono (Nat.le_succ k)
  refine callType_codes (Q₁ := fun obj s₁ => obj = .ref s.heap.objs.size ∧ s₁ = { s with heap := s.heap.push { cls := .type "list", data := .seq #[] } }) PySem.F.called_list (PySem.F.typeCall_list_1 _) PySem.F.entry_list_init
    (code_list_new _ ⟨rfl, rfl⟩) fun obj s₁ h₁ => ?_
  obtain ⟨rfl, rfl⟩ := h₁
  have hS : (s.heap.push { cls := .type "list", data := .seq #[] }).get? s.heap.objs.size = some { cls := .type "list", data := .seq #[] } := Heap.get?_push_size _ rfl
  refine ⟨⟨_, hS, rfl⟩, PySem.F.args_list_init_2 _ _, ?_⟩
  have nS : H s.heap.objs.size = none := I.hok.fresh (Nat.le_refl _)
  have fS : FpOk X pins H s.heap.objs.size := I.fpOk (Nat.le_refl _) nS
  have I1 : Inv X pins σ H { s with heap := s.heap.push { cls := .type "list", data := .seq #[] } } := I.kept (t' := s.toks) fun b u e => Heap.get?_push_of_some _ e
  show wpAny _ _ (do let old ← Builtin.List.listItems (.ref s.heap.objs.size); Builtin.List.listUpdate (.ref s.heap.objs.size) (fun _ => #[]); letGo old.toList.reverse; Builtin.List.listExtendWith (.ref s.heap.objs.size) (.ref a) .none) _ _ _
  refine wpAny_bind ?_
  unfold Builtin.List.listItems
  refine wpAny_bind (wpAny_seqItems hS rfl (wpAny_pure ?_))
  show wpAny _ _ (updateSeq s.heap.objs.size (fun _ => #[]) >>= fun _ => letGo (#[] : Array Value).toList.reverse >>= fun _ => Builtin.List.listExtendWith (.ref s.heap.objs.size) (.ref a) .none) _ _ _
  refine wpAny_bind (wpAny_updateSeq hS rfl ?_)
  have hS2 := Heap.get?_update_self (h := s.heap.push { cls := .type "list", data := .seq #[] }) (f := Obj.mapSeq fun _ => #[]) hS rfl
  have I2 := I1.turnedL (h' := (s.heap.push { cls := .type "list", data := .seq #[] }).update s.heap.objs.size (Obj.mapSeq fun _ => #[])) (t' := s.toks) (ch := [s.heap.objs.size]) (fun b o hb e => (Heap.get?_update_other _ _ (fun z => hb (by simp [z]))).trans e) (fun b hb => by rw [List.mem_singleton.mp hb]; exact fS)
  refine wpAny_bind (wpAny_letGo ?_)
  generalize hSa : s.heap.objs.size = S at *
  generalize hh2 : (s.heap.push { cls := .type "list", data := .seq #[] }).update S (Obj.mapSeq fun _ => #[]) = h2 at *
  have szS : S < h2.objs.size := Heap.lt_size hS2
  obtain ⟨mA, O, rr, _, _, _⟩ := ins_get I2.hok ha
  obtain ⟨od, J, hl⟩ := O.look
  obtain ⟨m0, hF⟩ := I2.fr
  have hne : S ≠ a := fun z => by rw [← z] at ha; rw [nS] at ha; cases ha
  have h1 : Builtin.List.listSameRef (.ref S) (.ref a) = false := by simp [Builtin.List.listSameRef, hne]
  unfold Builtin.List.listExtendWith
  refine wpAny_bind (J.type.here ?_)
  have n2 : (Value.ref C == Value.type "list") = false := rfl
  have n3 : (Value.ref C == Value.type "tuple") = false := rfl
  simp only [h1, n2, n3, Bool.or_false, Bool.false_eq_true, if_false]
  have I2p := I2.pinned (fp := [S]) (fun b hb => by rw [List.mem_singleton.mp hb]; exact fS) (fun b hb => by rw [List.mem_singleton.mp hb]; exact ⟨_, hS2, fun v z => nomatch z⟩)
  refine wpAny_bind (PySem.W.owit_iter hF I2.ok.mod.kin J hdI.at_ hdI.fn (thn (run_iter FI sb bI I2p ha hf ht) fun r s3 ⟨it, er, hn, h0, I3⟩ => ?_))
  subst er
  have e2 : upd H it (ItT t it 0) it = some (ItT t it 0) := upd_same
  have g : s3.heap.get? it = some (itTup t 0) := (I3.hok it _ e2).1
  have hS3 := (I3.pin (S, _) (List.mem_append_right _ (List.mem_append_right _ (mem_pinsAt (List.mem_singleton.mpr rfl) hS2)))).1
  have hTy : s3.TypeIs (.ref it) "tuple_iterator" := ⟨_, g, rfl⟩
  have fIt := ItX.inv_fp I3 e2 (Nat.le_trans I2.sz hn)
  have I4 := ItX.inv_drop I3 e2
  rw [ItX.dropH_upd h0] at I4 fIt
  unfold PySem.W.OwitIt
  refine wpAny_specialOf (name := Str.ofString "__next__") hTy PySem.F.slot_tuple_iterator_next.lookup ?_
  have I5 := I4.pinned (fp := [it]) (fun b hb => by rw [List.mem_singleton.mp hb]; exact fIt) (fun b hb => by rw [List.mem_singleton.mp hb]; exact ⟨_, g, fun v z => nomatch z⟩)
  show wpAny _ X.A.in1.in1 (holding [.ref it] (Builtin.List.listLengthHint (.ref a)) >>= _) _ _ s3
  obtain ⟨mA5, O5, rr5, _, _, _⟩ := ins_get I5.hok ha
  obtain ⟨od5, J5, hl5⟩ := O5.look
  obtain ⟨m5, hF5⟩ := I5.fr
  refine wpAny_bind (wpAny_holding ?_)
  have lenOk : ∀ {R : Value → Shared → Prop}, wpAny (model X.prog X.w) X.A.in1.in1 (call (.builtin "len") [.ref a]) (fun r s' => ∃ (n : Nat) (tk : Tok), r = .int n tk ∧ n < 1000 ∧ Inv X (pins ++ pinsAt [S] h2 ++ pinsAt [it] s3.heap) σ H s') R s3 := by
    intro R
    refine PySem.W.len_K hF5 I5.ok.mod.kin J5 hdL.at_ hdL.fn (thn (run_sub0 FL (Sub.in1 (Sub.mono sb1 (Nat.le_refl _))) bL I5 (.cons (relR a) .nil) hlen) fun r s' ⟨z, H', I', rz, n, ez, hn, eH⟩ => ?_)
    subst ez
    rw [eH] at I'
    obtain ⟨tk, rfl⟩ := rz
    exact ⟨⟨by omega, by omega⟩, n, _, rfl, hn, I'.tok _⟩
  unfold Builtin.List.listLengthHint
  refine wpAny_bind (wpAny_bind (J5.type.here ((PySem.W.looks_findIn I5.kIn hdL.at_).here ?_)))
  refine PySem.W.KFB.if_not rfl ?_
  refine if_yes rfl ?_
  refine wpAny_bind (wpAny_rule ?_)
  refine wpAny_bind (wpAny_attempt (thn lenOk fun r s6 ⟨n, tk, er, hn6, I6⟩ => ?_))
  subst er
  refine wpAny_bind (wpAny_of_eq (a := some ((n : Nat) : Int)) (by rfl) ?_)
  refine PySem.W.KFB.if_not (by unfold Builtin.List.listTooLong; exact decide_eq_false (by rw [sizeLine_eq, Int.toNat_natCast]; omega)) ?_
  refine wpAny_pure ?_
  -- the loop
  have I7 : Inv X pins σ H s6 := I6.unpinned.unpinned
  have hS6 := (I6.pin (S, _) (List.mem_append_right _ (List.mem_append_left _ (List.mem_append_right _ (mem_pinsAt (List.mem_singleton.mpr rfl) hS2))))).1
  have g6 := (I6.pin (it, _) (List.mem_append_right _ (List.mem_append_right _ (mem_pinsAt (List.mem_singleton.mpr rfl) g)))).1
  have fIt2 : FpOk X pins H it := ⟨fIt.1, fIt.2.1, fIt.2.2.1, fIt.2.2.2.1, fIt.2.2.2.2.1, fun p hp => fIt.2.2.2.2.2 p ((List.mem_append.mp hp).elim (fun z => List.mem_append_left _ z) fun z => List.mem_append_right _ (List.mem_append_left _ z))⟩
  have Sne' : S ≠ it := fun z => by
    rw [z, g6] at hS6
    exact ty_ne (show Value.type "tuple_iterator" = Value.type "list" from congrArg Obj.cls (Option.some.inj hS6)) (by decide +kernel)
  have loop : ∀ (s7 : Shared) (c : Nat), Inv X pins σ H s7 → s7.heap.get? S = some { cls := .type "list", data := .seq #[] c } → s7.heap.get? it = some (itTup t 0) →
      codeAny (model X.prog X.w) X.A.in1 (.builtin "list.extend.loop" ⟨[.ref S, .ref it, .none], []⟩) (wants (fun r s₂ => r = .none ∧ EP X pins σ Q (.ref S) s₂) X.xe) s7 := by
    intro s7 c J7 hS7 g7
    obtain ⟨its, rz, pl, hz2⟩ := J7.tuple ht
    have tne : t ≠ it := fun z => by
      obtain ⟨o, e1, e2, _⟩ := pl
      rw [z, g7] at e1
      rw [← Option.some.inj e1] at e2
      exact ty_ne (show Value.type "tuple_iterator" = Value.type "tuple" from e2) (by decide +kernel)
    have Sne : S ≠ it := fun z => by
      rw [z, g7] at hS7
      exact ty_ne (show Value.type "tuple_iterator" = Value.type "list" from congrArg Obj.cls (Option.some.inj hS7)) (by decide +kernel)
    have St : S ≠ t := fun z => by
      obtain ⟨o, e1, e2, _⟩ := pl
      rw [← z, hS7] at e1
      rw [← Option.some.inj e1] at e2
      exact ty_ne (show Value.type "list" = Value.type "tuple" from e2) (by decide +kernel)
    have li : its.length = zs.length := rz.length.symm
    have W := (PySem.Walks.tuple (prog := X.prog) (w := X.w) (A := X.A.in1.in1) sb1.room.hd it t tne its.toArray).toS
    refine PySem.codeAny_extend_loopS (A := X.A.in1) W (by rw [List.size_toArray, sizeLine_eq]; omega) S (fun z => ?_) .none _ 0 s7 #[] c rfl (Nat.zero_le _) ⟨⟨_, g7, rfl, rfl⟩, pl⟩ hS7 (PySem.ItemsOf.nil _) fun s8 acc c8 m hS8 hit => ?_
    · rcases List.mem_cons.mp z with z | z
      · exact Sne z
      · exact St (List.mem_singleton.mp z)
    have eacc : acc = its.toArray := by
      refine Array.ext_getElem? fun j => ?_
      by_cases hj : j < acc.size
      · rw [Array.getElem?_eq_getElem hj]
        exact (hit.2 j _ (Array.getElem?_eq_getElem hj)).symm
      · rw [Array.getElem?_eq_none (by omega), Array.getElem?_eq_none (by rw [← hit.1]; omega)]
    subst eacc
    have J8 := J7.turnedL (h' := s8.heap) (t' := s8.toks) (ch := [S, it]) (fun b o hb e => m.heap b o hb e) (fun b hb => by
      rcases List.mem_cons.mp hb with z | z
      · rw [z]; exact fS
      · rw [List.mem_singleton.mp z]; exact fIt2)
    have J9 := J8.take (h' := s8.heap) (t' := s8.toks) (it := S) (o := .lst zs) (fun _ _ _ e => e) fS ⟨by rw [sizeLine_eq]; omega, its, c8, rz, hS8⟩
    have e8 : s8 = { s7 with heap := s8.heap, toks := s8.toks } := Moved.eq_with m
    rw [e8]
    exact ⟨rfl, .ref S, _, J9, rfl, q S nS⟩
  refine wpAny_ite_split (fun _ => ?_) (fun _ => wpAny_pure ⟨plainId_quiet PySem.F.plain_extend_loop _, loop s6 _ I7 hS6 g6⟩)
  refine wpAny_bind (wpAny_rule ?_)
  refine wpAny_bind ?_
  show wpAny _ _ (updateSeq S (·.push .none) >>= fun _ => updateSeq S (·.pop)) _ _ _
  refine wpAny_bind (wpAny_updateSeq hS6 rfl ?_)
  have e9 := Heap.get?_update_self (h := s6.heap) (f := Obj.mapSeq (·.push Value.none)) hS6 rfl
  refine wpAny_updateSeq e9 rfl ?_ (by show 1 ≤ sizeLine; rw [sizeLine_eq]; decide) (by show 0 ≤ sizeLine + 1; exact Nat.zero_le _)
  have e10 := Heap.get?_update_self (h := s6.heap.update S (Obj.mapSeq (·.push Value.none))) (f := Obj.mapSeq (·.pop)) e9 rfl
  have J := I7.turnedL (h' := (s6.heap.update S (Obj.mapSeq (·.push Value.none))).update S (Obj.mapSeq (·.pop))) (t' := s6.toks) (ch := [S]) (fun b o hb e => (Heap.get?_update_other _ _ (fun z => hb (by simp [z]))).trans ((Heap.get?_update_other _ _ (fun z => hb (by simp [z]))).trans e)) (fun b hb => by rw [List.mem_singleton.mp hb]; exact fS)
  refine wpAny_pure ⟨plainId_quiet PySem.F.plain_extend_loop _, loop _ _ J e10 ?_⟩
  exact (Heap.get?_update_other _ _ Sne').trans ((Heap.get?_update_other _ _ Sne').trans g6)
end
end Tw

set_option Elab.async false
set_option linter.all false
set_option maxRecDepth 100000
set_option maxHeartbeats 2000000
/-! own rule: sorted(t), t a tuple of whole numbers -/
namespace Tw
open PySem PySem.Spec PyProof.Rows L2
section
variable {prog : Program} {w : World} {A : Around} {E : Value → Shared → Prop} {s : Shared}
/-- a tuple's items, gathered: they are met as a list's are -/
theorem gather_tup {t : Addr} {vs : List Value} {Q : List Value → Shared → Prop} (ht : s.heap.IsTuple t vs.toArray)
    (h : Q vs { s with heap := (s.heap.push (seqObj "list" #[] 0)).update s.heap.objs.size (Obj.mapSeq (· ++ vs.toArray)) }) (hz : vs.length ≤ sizeLine) :
    wpAny (model prog w) A (collect (.ref t)) Q E s := by
  obtain ⟨o, ho, hc, n, hd⟩ := ht
  unfold collect
  refine wpAny_bind (wpAny_runValue (codeAny_builtin entry_proto_collect' ?_))
  show wpAny _ _ (do again (.builtin "list.__iadd__" ⟨[← newList [], .ref t], []⟩)) _ _ s
  refine wpAny_bind (wpAny_newList (wpAny_pure ⟨Code.quiet_builtin _ (by decide +kernel), codeAny_builtin entry_list_iadd' ?_⟩))
  show wpAny _ _ (Builtin.List.listExtendWith (.ref s.heap.objs.size) (.ref t) (.ref s.heap.objs.size)) _ _ { s with heap := s.heap.push (seqObj "list" #[] 0) }
  have ho2 : (s.heap.push (seqObj "list" #[] 0)).get? t = some o := Heap.get?_push_of_some _ ho
  unfold Builtin.List.listExtendWith
  refine wpAny_bind (wpAny_typeOf (T := "tuple") ⟨o, ho2, hc⟩ ?_)
  have tt : (Value.type "tuple" == Value.type "tuple") = true := by rfl
  rw [if_pos (by rw [tt]; simp)]
  refine wpAny_bind (listItems_at ho2 hd ?_)
  refine wpAny_bind (listItems_at (xs := #[]) (n := 0) (Heap.get?_push_size _ rfl) rfl ?_)
  rw [if_neg (by simp)]
  refine wpAny_bind (listUpdate_at (xs := #[]) (n := 0) (Heap.get?_push_size _ rfl) rfl ?_ (Nat.zero_le _) (by show (#[] ++ vs.toArray).size ≤ sizeLine + 1; simp only [Array.size_append, List.size_toArray, List.length_nil]; omega))
  refine wpAny_pure ?_
  refine wpAny_bind (wpAny_load (get?_update_seq (Heap.get?_push_size _ rfl) _) ?_)
  show wpAny _ _ (pure ((#[] : Array Value) ++ vs.toArray).toList) Q E _
  rw [show ((#[] : Array Value) ++ vs.toArray).toList = vs by simp]
  exact wpAny_pure h
end
def rSortedTu (K : PySem.W.Frag) : List V → Hp → VK → Prop := fun vs H Q => ∃ (a : Addr) (ns : List Int), vs = [V.ref a] ∧ SqT K H a (ns.map V.int) ∧
  ∀ (ns' : List Int) (p : Addr), ns'.Perm ns → ns'.Pairwise (· ≤ ·) → H p = none → Q (.ref p) (upd H p (.lst (ns'.map V.int)))
section
variable {X : Cx}
theorem cr_sortedTu : CallR X (.builtin "sorted") (rSortedTu X.K) := by
  intro pins s σ H vs us Q I r h
  obtain ⟨a, ns, rfl, hs, q⟩ := h
  obtain ⟨its, rv, hl, hz⟩ := I.tuple hs
  rw [Vals.ref1 r]
  have hi := rv.ints
  have hzi : its.length ≤ sizeLine := by rw [← rv.length]; exact hz
  refine Calls.call_function_entry kind_sorted plain_sorted entry_sorted (args_sorted1 _) ?_
  unfold Builtin.«sorted»
  refine wpAny_bind (m := checkCount "sorted" 1 1 _) (wpAny_pure ?_)
  refine wpAny_bind (gather_tup hl ?_ hzi)
  refine wpAny_bind (wpAny_newList ?_ hzi)
  have hsz : ((s.heap.push (seqObj "list" #[] 0)).update s.heap.objs.size (Obj.mapSeq (· ++ its.toArray))).objs.size = s.heap.objs.size + 1 := by
    rw [Heap.size_update, size_push']
  have hoL : (((s.heap.push (seqObj "list" #[] 0)).update s.heap.objs.size (Obj.mapSeq (· ++ its.toArray))).push (seqObj "list" its.toArray 0)).get? (s.heap.objs.size + 1) = some (seqObj "list" its.toArray 0) := by
    rw [← hsz]
    exact Heap.get?_push_size _ rfl
  show wpAny _ _ _ _ _ { s with heap := ((s.heap.push (seqObj "list" #[] 0)).update s.heap.objs.size (Obj.mapSeq (· ++ its.toArray))).push (seqObj "list" its.toArray 0) }
  rw [hsz]
  refine wpAny_bind (wpAny_holding (wpAny_call_entry slot_list_sort ⟨_, hoL, rfl⟩ entry_list_sort (SrtO.list_sort_ord SrtO.swo_int hoL hzi (fun h2 => SrtO.ints_sortable hi h2) fun out h1 h2 => ⟨_, rfl, ?_⟩) (args_list_sort _)))
  refine wpAny_pure ⟨_, rfl, ?_⟩
  obtain ⟨k1, k2, k3⟩ := SrtO.ints_out hi h1 h2
  obtain ⟨ep, he'⟩ := PyProof.Rows.sortedAll_at s.heap its out.toArray
  have hlen : ((out.map SrtO.iv).map V.int).length ≤ sizeLine := by
    rw [List.length_map, k2.length_eq]
    rw [List.length_map] at hz
    exact hz
  exact ⟨.ref _, upd H (s.heap.objs.size + 1) (.lst ((out.map SrtO.iv).map V.int)), I.laid (t' := s.toks) (fun _ _ => PyProof.Rows.sortedAll_old) (Nat.le_succ _) ⟨hlen, out, ep, vals_of_ints k1, he'⟩, rfl, q _ _ k2 k3 (I.hok.fresh (Nat.le_succ _))⟩
end
end Tw

set_option Elab.async false
set_option linter.all false
set_option maxRecDepth 100000
set_option maxHeartbeats 1000000
/-! != of two tuples of two things, equal ones in turn -/
namespace Cq
open PySem PySem.SeqAt
open AutoSeq1 (wpAny_loadPart')
open MeetsSeq MeetsSeq2 MeetsSeq3 SeqRoads2
theorem pairs_ne {prog : Program} {w : World} {A : Around} {R : Result → Shared → Prop} {p q : Addr} {a b c e : Value} {k k2 : Nat} {u u2 : Option Addr} {z z2 : Array (Option Value)} {s : Shared}
    (hp : s.heap.get? p = some { cls := .type "tuple", dict := u, data := .seq #[a, b] k, slots := z }) (hq : s.heap.get? q = some { cls := .type "tuple", dict := u2, data := .seq #[c, e] k2, slots := z2 })
    (h : wpAny (model prog w) A.in1 (eqBool a c) (fun r s1 => r = true ∧ wpAny (model prog w) A.in1 (eqBool b e) (fun r s2 => r = true ∧ R (.ok (.ret (.bool false))) s2) (fun x s2 => R (.error x) s2) s1) (fun x s1 => R (.error x) s1) s) :
    wpAny (model prog w) A.in1 (Builtin.«tuple.__ne__» ⟨[.ref p, .ref q], []⟩) (GQ.FinOf prog w A R) (fun x s1 => R (.error x) s1) s := by
  have sub2 := AutoSeq1.sub_tuple_tuple
  obtain ⟨hh, gg, dd, tk, os⟩ := s
  wp_walk using wpAny_loadPart' hp, wpAny_loadPart' hq, wpAny_forIn_list _ (fun rest t s1 => t.1 = none ∧ ((rest = [(a, c), (b, e)] ∧ wpAny (model prog w) A.in1 (eqBool a c) (fun r s1 => r = true ∧ wpAny (model prog w) A.in1 (eqBool b e) (fun r s2 => r = true ∧ R (.ok (.ret (.bool false))) s2) (fun x s2 => R (.error x) s2) s1) (fun x s1 => R (.error x) s1) s1) ∨
    (rest = [(b, e)] ∧ wpAny (model prog w) A.in1 (eqBool b e) (fun r s2 => r = true ∧ R (.ok (.ret (.bool false))) s2) (fun x s2 => R (.error x) s2) s1) ∨ (rest = [] ∧ R (.ok (.ret (.bool false))) s1))) _
  case turn =>
    rintro ⟨y, x⟩ rest t s1 ⟨ht, ⟨e1, h1⟩ | ⟨e1, h1⟩ | ⟨e1, _⟩⟩
    · injection e1 with e1 e2
      injection e1 with e3 e4
      subst e3 e4 e2
      refine wpAny_bind (wpAny_mono h1 (fun r s2 g => ?_) fun _ _ g => g)
      obtain ⟨rfl, g⟩ := g
      wp_walk
      exact ⟨rfl, .inr (.inl ⟨rfl, g⟩)⟩
    · injection e1 with e1 e2
      injection e1 with e3 e4
      subst e3 e4 e2
      refine wpAny_bind (wpAny_mono h1 (fun r s2 g => ?_) fun _ _ g => g)
      obtain ⟨rfl, g⟩ := g
      wp_walk
      exact ⟨rfl, .inr (.inr ⟨rfl, g⟩)⟩
    · cases e1
  case fin =>
    rintro ⟨t1, t2⟩ s1 ⟨ht, ⟨e1, _⟩ | ⟨e1, _⟩ | ⟨_, h1⟩⟩
    · cases e1
    · cases e1
    · simp only at ht
      subst ht
      wp_walk
      simpa [Builtin.Tuple.tupleCompareSizes] using h1
  case h => exact ⟨rfl, .inl ⟨rfl, h⟩⟩
end Cq
namespace L2
open PySem PySem.Spec PyProof.Rows
theorem vals_two {a b : V} {l : List Value} (r : Vals [a, b] l) : ∃ x y, l = [x, y] ∧ RelV a x ∧ RelV b y := by
  cases r with
  | cons ra r =>
    cases r with
    | cons rb r =>
      cases r
      exact ⟨_, _, rfl, ra, rb⟩
def DPair (K : PySem.W.Frag) (D1 D2 : Eqv) : Eqv := fun x y H => ∃ (p q : Addr) (a b c e : V), x = .ref p ∧ y = .ref q ∧ SqT K H p [a, b] ∧ SqT K H q [c, e] ∧ D1 a c H ∧ D2 b e H
def rNeP (D : Eqv) : R2 := fun x y H Q => D x y H ∧ ∀ H', Ext H H' → Q (.bl false) H'
theorem op_neP {X : Cx} {n : Nat} {D1 D2 : Eqv} (g1 : EqG X n D1) (g2 : EqG X n D2) (m2 : Mon D2) (hr : Room (n + 1) X.A) : OpR X (compareOp .NotEq) (rNeP (DPair X.K D1 D2)) := by
  intro pins s σ H x y v u Q I rx ry ⟨⟨p, q, a, b, c, e, ex, ey, hp, hq, d1, d2⟩, k⟩
  subst ex ey
  cases rx
  cases ry
  have sb : Sub X (n + 1) X.A := ⟨hr, rfl⟩
  obtain ⟨its, r, e1, _⟩ := I.tuple hp
  obtain ⟨its2, r2, e2, _⟩ := I.tuple hq
  obtain ⟨va, vb, ei, ra, rb⟩ := vals_two r
  obtain ⟨vc, ve, ei2, rc, re⟩ := vals_two r2
  subst ei ei2
  obtain ⟨⟨cl, u1, da, z1⟩, o1, c1, n1, w1⟩ := id e1
  obtain ⟨⟨cl2, u2, da2, z2⟩, o2, c2, n2, w2⟩ := id e2
  dsimp only at c1 w1 c2 w2
  subst c1 w1 c2 w2
  show wpAny (model X.prog X.w) X.A (richCompare .NotEq (.ref p) (.ref q)) (EP X pins σ Q) X.xe s
  refine wpAny_richCompare_same_room (op := .NotEq) ⟨_, o1, rfl⟩ ⟨_, o2, rfl⟩ F.slot_tuple_ne (GQ.call_here F.slot_tuple_ne ⟨_, o1, rfl⟩ F.entry_tuple_ne (F.args_tuple_ne_2 _ _) ?_) hr.units0
  refine Cq.pairs_ne (R := wants (fun v s' => v ≠ .notImplemented ∧ EP X pins σ Q v s') X.xe) o1 o2 ?_
  refine wpAny_mono (g1 X.A.in1 pins s σ H _ _ va vc sb.in1 I ra rc d1) (fun t s1 ⟨ht, H1, I1, x1⟩ => ⟨ht, ?_⟩) fun _ _ g => g
  refine wpAny_mono (g2 X.A.in1 pins s1 σ H1 _ _ vb ve sb.in1 I1 rb re (m2 _ _ _ _ x1 d2)) (fun t s2 ⟨ht, H2, I2, x2⟩ => ⟨ht, ?_⟩) fun _ _ g => g
  exact ⟨(fun g => nomatch g), .bl false, H2, I2, rfl, k H2 (x1.trans x2)⟩
end L2


set_option Elab.async false
set_option linter.all false
set_option maxRecDepth 100000
set_option maxHeartbeats 4000000
/-! set(xs), xs a list of ints, as a value -/
namespace L2
open PySem PySem.Spec PyProof.Rows
section
variable {P : Program} {w : World} {A : Around} {E : Value → Shared → Prop}
/-- the set that is there at first -/
abbrev eS (w : World) : Obj := { cls := .type "set", dict := none, data := .set #[] 0 (.fresh 0 0 (!w.params.followText "set-order")) }
theorem init_over {z : Shared} {D l : Addr} {items : Array Value} {ns : List Int} {R : Result → Shared → Prop} (hh : A.handled = none) (hD : z.heap.get? D = some (eS w)) (hl : z.heap.IsList l items) (hit : IntsAre items.toList ns) (hb : ns.length + 1 < scanBound) (hne : l ≠ D)
    (q : ∀ (h' : Heap) (tk c : Nat), SetR w h' D (fun j => decide (j ∈ ns)) c → c ≤ ns.length → (∀ b o, b ≠ D → z.heap.get? b = some o → h'.get? b = some o) → R (.ok (.ret .none)) { z with heap := h', toks := tk }) :
    codeAny (model P w) A (.call (.builtin "set.__init__") ⟨[.ref D, .ref l], []⟩) R z := by
  have hn : items.size = ns.length := by
    have e := IntsAre.length hit
    rw [Array.length_toList] at e
    exact e
  have hT : Shared.TypeIs z (.ref D) "set" := ⟨_, hD, rfl⟩
  have lD : D < z.heap.objs.size := Heap.lt_size hD
  obtain ⟨⟨oc, od, oa, os⟩, hol, hcl, nl, hdl⟩ := id hl
  have ll : l < z.heap.objs.size := Heap.lt_size hol
  dsimp only at hcl hdl
  subst hcl hdl
  have no1 := F.sub_list_set
  have no2 := F.sub_list_frozenset
  have no3 : (Value.type "list" == Value.type "dict") = false := by decide
  refine codeAny_call_builtin F.called_set.init.plain F.entry_set_init (check_set_init_1 hT ?_)
  unfold Builtin.«set.__init__» noKeywords Builtin.Frozenset.updateFrom
  generalize hPI : pyIter = PI
  wp_walk
  subst hPI
  refine wpAny_pyIter_list hl ?_
  refine wpAny_bind (wpAny_runValue ?_)
  have free3 : A.in1.in1.handled = none := by simp [hh]
  have apart : l ≠ z.heap.objs.size := Nat.ne_of_lt ll
  have offS : D ∉ [z.heap.objs.size, l] := fun m => by
    rcases List.mem_cons.mp m with y | y
    · exact absurd y (Nat.ne_of_lt lD)
    · exact hne (List.mem_singleton.mp y).symm
  have each : ∀ (i : Nat) (v : Value), items[i]? = some v → ∃ k t, ns[i]? = some k ∧ v = .int k t := fun i v e => by
    have hi : i < ns.length := hn ▸ (Array.getElem?_eq_some_iff.mp e).1
    obtain ⟨t, e2⟩ := IntsAre.int_at hit i v (by rw [Array.getElem?_toList]; exact e)
    exact ⟨ns[i], t, List.getElem?_eq_getElem hi, by rw [e2, List.getD_eq_getElem?_getD, List.getElem?_eq_getElem hi]; rfl⟩
  refine set_update_ints ((Walks.list free3 _ l apart items).toS) D offS ns hn hb each (items.size - 0) 0 _ (by omega) (Nat.zero_le _) ?_ ⟨0, Nat.le_refl 0, ?_⟩ ?_
  · exact ⟨⟨_, Heap.get?_push_size _ rfl, rfl, rfl⟩, hl.push _⟩
  · exact setR_new_at (Heap.get?_push_of_some _ hD)
  rintro ⟨h', gens', drawn', tk', os'⟩ c moved hc new
  obtain rfl : gens' = z.gens := moved.gens
  obtain rfl : drawn' = z.drawn := moved.drawn
  obtain rfl : os' = z.os := moved.os
  show wpAny _ _ _ _ _ _
  refine wpAny_pure ?_
  show wpAny _ _ (ret Value.none) _ _ _
  refine wpAny_pure (q h' tk' c new (by omega) fun b o hbD e => ?_)
  have lb : b < z.heap.objs.size := Heap.lt_size e
  refine moved.heap b o (fun m => ?_) (Heap.get?_push_of_some _ e)
  rcases List.mem_cons.mp m with y | y
  · exact hbD y
  · exact absurd (List.mem_singleton.mp y) (Nat.ne_of_lt lb)
theorem set_over {z : Shared} {l : Addr} {items : Array Value} {ns : List Int} {Q : Value → Shared → Prop} (hh : A.handled = none) (hl : z.heap.IsList l items) (hit : IntsAre items.toList ns) (hb : ns.length + 1 < scanBound)
    (q : ∀ (h' : Heap) (tk c : Nat), SetR w h' z.heap.objs.size (fun j => decide (j ∈ ns)) c → c ≤ ns.length → (∀ b o, z.heap.get? b = some o → h'.get? b = some o) → Q (.ref z.heap.objs.size) { z with heap := h', toks := tk }) :
    wpAny (model P w) A (call (.type "set") [.ref l]) Q E z := by
  obtain ⟨c0, t0, mro0⟩ := F.called_set.mro
  have m1 := F.called_set.made
  have m2 := F.called_set.sub
  have m3 := F.called_set.notType
  have m4 := F.called_set.canCreate
  have m5 := F.typeCall_set_1 (.ref l)
  have ll : l < z.heap.objs.size := by
    obtain ⟨o, ho, _⟩ := id hl
    exact Heap.lt_size ho
  refine wpAny_call (codeAny_of_tree ?_)
  show wpAny _ _ (callAny (.type "set") _) _ _ _
  refine wpAny_pure ⟨Code.quiet_builtin _ (by decide +kernel), codeAny_builtin F.entry_type_call ?_⟩
  rw [Around.under_plain (weight_type_call_type "set" [.ref l] []) rfl]
  repeat any_goals first | assumption | wp_step
  have new1 : (z.heap.push (eS w)).get? z.heap.objs.size = some (eS w) := Heap.get?_push_size _ rfl
  refine codeAny_mono (code_set_led1 (.ref l) (E := E) (Q₁ := fun v y => v = .ref z.heap.objs.size ∧ y = { z with heap := z.heap.push (eS w) }) ⟨rfl, rfl⟩) fun r y hr => ?_
  cases r with
  | error e => exact hr
  | ok fl =>
    cases fl with
    | ret v =>
      obtain ⟨rfl, rfl⟩ := hr
      have hT : Shared.TypeIs { z with heap := z.heap.push (eS w) } (.ref z.heap.objs.size) "set" := ⟨_, new1, rfl⟩
      have i1 := F.called_set.init.lookup
      have i2 := F.called_set.init.bind (.ref z.heap.objs.size)
      repeat any_goals first | assumption | wp_step
      refine init_over (A := A.in1) (z := { z with heap := z.heap.push (eS w) }) (D := z.heap.objs.size) (by simp [hh]) new1 (hl.push _) hit hb (Nat.ne_of_lt ll) fun h' tk c S hc k => ?_
      show wpAny _ _ (pure (some Value.none)) _ _ _
      repeat any_goals first | assumption | wp_step
      exact q h' tk c S hc fun b o e => k b o (Nat.ne_of_lt (Heap.lt_size e)) (Heap.get?_push_of_some _ e)
    | _ => exact hr.elim
end
section
variable {X : Cx}
/-- set(xs) -/
def rSetLI (K : PySem.W.Frag) (w : World) : List V → Hp → VK → Prop := fun xs H Q => ∃ (l : Addr) (ns : List Int), xs = [V.ref l] ∧ SqL K H l (ns.map V.int) ∧ ns.length ≤ 1000 ∧ ∀ p n, n ≤ ns.length → H p = none → Q (.ref p) (upd H p (SetO w p (fun j => decide (j ∈ ns)) n))
theorem cr_setLI (hc : X.calm = true) : CallR X (.type "set") (rSetLI X.K X.w) := by
  intro pins s σ H xs us Q I r h
  obtain ⟨l, ns, rfl, hl, h1, q⟩ := h
  obtain ⟨its, rv, pl, _⟩ := I.list hl
  rw [Vals.ref1 r]
  refine set_over (I.ok.hd hc) pl.isList (ns := ns) (by simpa using rv.ints) (by unfold scanBound; omega) fun h' tk c R hc k => ?_
  exact ⟨.ref _, upd H s.heap.objs.size (SetO X.w s.heap.objs.size (fun j => decide (j ∈ ns)) c), I.laid (t' := tk) k (Nat.le_refl _) (setO_new R), rfl, q _ c hc (I.hok.fresh (Nat.le_refl _))⟩
end
end L2

set_option Elab.async false
set_option linter.all false
set_option maxRecDepth 100000
set_option maxHeartbeats 4000000
/-! sorted(xs), xs a list of tuples of ints, as long as a list may be -/
namespace L2
open PySem PySem.Spec PyProof.Rows PySem.W
abbrev tupE (ns : List Int) : PyData := .tuple (ns.map .int)
theorem tupE_le : dataLe false tupE = fun p q => decide (p ≤ q) := by
  funext p q
  show (!dataLt (.tuple (q.map .int)) (.tuple (p.map .int))) = _
  rw [dataLt_tuple]
  show (!rowLt (q.map .int) (p.map .int)) = _
  rw [dataLt_ints]
  by_cases h : q < p
  · have h' : ¬ p ≤ q := fun r => List.not_lt.mpr r h
    simp [h, h']
  · have h' : p ≤ q := List.not_lt.mp h
    simp [h, h']
section
variable {X : Cx} {pins : List (Addr × Obj)} {σ : St} {H : Hp} {s : Shared}
abbrev TupV (K : PySem.W.Frag) (H : Hp) (u : Value) (ns : List Int) : Prop := ∃ t, u = .ref t ∧ SqT K H t (ns.map V.int)
theorem tupV_of : ∀ {xs : List V} {bs : List (List Int)} {us : List Value}, Paired (TupI X.K H) xs bs → Vals xs us → EachIs (TupV X.K H) us bs
  | _, _, _, .nil, .nil => .nil
  | _, _, _, .cons ⟨t, e, h⟩ p, .cons r v => by
    subst e
    cases r
    exact .cons ⟨t, rfl, h⟩ (tupV_of p v)
theorem tupV_to : ∀ {bs : List (List Int)} {us : List Value}, EachIs (TupV X.K H) us bs → Paired (TupI X.K H) (us.map bkV) bs ∧ ∀ u ∈ us, ∃ a, u = Value.ref a
  | _, _, .nil => ⟨.nil, fun u hu => absurd hu (by simp)⟩
  | _, _, .cons ⟨t, e, h⟩ p => by
    subst e
    obtain ⟨h1, h2⟩ := tupV_to p
    refine ⟨.cons ⟨t, rfl, h⟩ h1, fun u hu => ?_⟩
    rcases List.mem_cons.mp hu with e | hu
    · exact ⟨t, e⟩
    · exact h2 u hu
theorem tupV_reads (I : Inv X pins σ H s) {u : Value} {ns : List Int} (h : TupV X.K H u ns) : ∃ as, Reads s.heap u (tupE ns) as := by
  obtain ⟨t, rfl, ht⟩ := h
  obtain ⟨its, rv, hT, _⟩ := I.tuple ht
  exact ⟨_, reads_tuple_ints hT (by simpa using rv.ints)⟩
/-- sorted(xs): the items ascending as tuples are -/
def rSortTA (K : PySem.W.Frag) : List V → Hp → VK → Prop := fun vs H Q => ∃ (a : Addr) (xs : List V) (bs : List (List Int)), vs = [V.ref a] ∧ SqL K H a xs ∧ Paired (TupI K H) xs bs ∧ (∀ b ∈ bs, b ≠ []) ∧
  ∀ (ys : List V) (p : Addr), Paired (TupI K H) ys (bs.mergeSort fun p q => decide (p ≤ q)) → H p = none → Q (.ref p) (upd H p (.lst ys))
theorem cr_sortTA (hu : X.A.units + 65 < cLine) : CallR X (.builtin "sorted") (rSortTA X.K) := by
  intro pins s σ H vs us Q I r h
  obtain ⟨a, xs, bs, rfl, hs, hp, hne, q⟩ := h
  obtain ⟨its, rv, hl, hz⟩ := I.list hs
  rw [Vals.ref1 r]
  have e0 : EachIs (TupV X.K H) its bs := tupV_of hp rv
  have hlen : bs.length = xs.length := (Paired.length hp).symm
  refine sorted_data (A := X.A) (R := TupV X.K H) (enc := tupE) hl.isList e0 (e0.mono fun u ns h => tupV_reads I h) (AllAlike.of fun b b' => by simp [alike, alike_ints]) (.inl fun d hd => ?_) (by rw [hlen]; exact hz) (fun b _ => ?_) fun out ho eo => ?_
  · obtain ⟨b, hb, rfl⟩ := List.mem_map.mp hd
    match b, hne b hb with
    | x :: r, _ => exact ⟨_, _, rfl⟩
  · have : (tupE b).depth ≤ 1 := by simp [PyData.depth, depth_ints]
    omega
  · rw [tupE_le] at eo
    obtain ⟨e1, e2⟩ := tupV_to eo
    obtain ⟨ep, he'⟩ := PyProof.Rows.sortedAll_at s.heap its out.toArray
    have hz2 : (out.map bkV).length ≤ sizeLine := by
      rw [List.length_map, ho, hlen]
      exact hz
    exact ⟨.ref _, upd H (s.heap.objs.size + 1) (.lst (out.map bkV)), I.laid (t' := s.toks) (fun _ _ => PyProof.Rows.sortedAll_old) (Nat.le_succ _) ⟨hz2, out, ep, bkV_vals e2, he'⟩, rfl, q _ _ e1 (I.hok.fresh (Nat.le_succ _))⟩
end
end L2

set_option Elab.async false
set_option linter.all false
set_option maxRecDepth 100000
set_option maxHeartbeats 4000000
/-! sorted(xs), xs a list of one item at most, whatever it is -/
namespace L2
open PySem PySem.Spec PyProof.Rows PySem.W
section
variable {X : Cx}
def rSort1 (K : PySem.W.Frag) : List V → Hp → VK → Prop := fun vs H Q => ∃ (a : Addr) (xs : List V), vs = [V.ref a] ∧ SqL K H a xs ∧ xs.length ≤ 1 ∧
  ∀ p : Addr, H p = none → Q (.ref p) (upd H p (.lst xs))
theorem cr_sort1 : CallR X (.builtin "sorted") (rSort1 X.K) := by
  intro pins s σ H vs us Q I r h
  obtain ⟨a, xs, rfl, hs, h1, q⟩ := h
  obtain ⟨its, rv, hl, hz⟩ := I.list hs
  rw [Vals.ref1 r]
  have hlen : xs.length = its.length := rv.length
  refine Srt.sorted_any hl.isList (by omega) (fun h2 => by omega) fun out hp => ?_
  have e : out = its := by
    match its, hlen with
    | [], _ => exact List.Perm.eq_nil hp
    | [x], _ => exact List.perm_singleton.mp hp
    | _ :: _ :: _, hl => simp only [List.length_cons] at hl; omega
  subst e
  obtain ⟨ep, he'⟩ := PyProof.Rows.sortedAll_at s.heap out out.toArray
  exact ⟨.ref _, upd H (s.heap.objs.size + 1) (.lst xs), I.laid (t' := s.toks) (fun _ _ => PyProof.Rows.sortedAll_old) (Nat.le_succ _) ⟨hz, out, ep, rv, he'⟩, rfl, q _ (I.hok.fresh (Nat.le_succ _))⟩
end
end L2

set_option Elab.async false
set_option linter.all false
set_option maxRecDepth 100000
set_option maxHeartbeats 2000000
namespace Tw
open PySem PySem.Spec PyProof.Rows L2
def topS (i : Nat) : Stmt := PySem.Challenge.pw_heaprows_k59_whole_codes.main.body.getD i (.Pass ⟨0, 0, 0, 0⟩)
abbrev s_is_integer : Stmt := topS 5
theorem sc_is_integer : FnScope ["thing"] ["thing"] (defScope s_is_integer) := ⟨rfl, rfl, rfl, by decide +kernel, rfl, by decide +kernel, by decide +kernel⟩
abbrev s_is_integer_from : Stmt := topS 6
theorem sc_is_integer_from : FnScope ["thing", "least", "greatest"] ["thing", "least", "greatest"] (defScope s_is_integer_from) := ⟨rfl, rfl, rfl, by decide +kernel, rfl, by decide +kernel, by decide +kernel⟩
abbrev s_is_full : Stmt := topS 7
theorem sc_is_full : FnScope ["thing", "many", "item"] ["thing", "many"] (defScope s_is_full) := ⟨rfl, rfl, rfl, by decide +kernel, rfl, by decide +kernel, by decide +kernel⟩
abbrev s_is_code : Stmt := topS 12
theorem sc_is_code : FnScope ["thing", "number", "at"] ["thing"] (defScope s_is_code) := ⟨rfl, rfl, rfl, by decide +kernel, rfl, by decide +kernel, by decide +kernel⟩
abbrev s_order_code : Stmt := topS 10
theorem sc_order_code : FnScope ["order", "before", "at", "item"] ["order"] (defScope s_order_code) := ⟨rfl, rfl, rfl, by decide +kernel, rfl, by decide +kernel, by decide +kernel⟩
abbrev s_order_by : Stmt := topS 11
theorem sc_order_by : FnScope ["numbers", "left", "order", "number"] ["numbers"] (defScope s_order_by) := ⟨rfl, rfl, rfl, by decide +kernel, rfl, by decide +kernel, by decide +kernel⟩
abbrev s__law_number : Stmt := topS 14
theorem sc__law_number : FnScope ["script", "index", "cells", "cell", "low", "high", "total", "blend"] ["script", "index"] (defScope s__law_number) := ⟨rfl, rfl, rfl, by decide +kernel, rfl, by decide +kernel, by decide +kernel⟩
abbrev s__law_orders : Stmt := topS 15
theorem sc__law_orders : FnScope ["many", "found", "turn", "late", "one", "item"] ["many"] (defScope s__law_orders) := ⟨rfl, rfl, rfl, by decide +kernel, rfl, by decide +kernel, by decide +kernel⟩
abbrev s__law_due : Stmt := topS 16
theorem sc__law_due : FnScope ["row", "one", "at"] ["row"] (defScope s__law_due) := ⟨rfl, rfl, rfl, by decide +kernel, rfl, by decide +kernel, by decide +kernel⟩
abbrev s__law_codes : Stmt := topS 17
theorem sc__law_codes : FnScope ["many", "found", "at", "late", "one", "item"] ["many"] (defScope s__law_codes) := ⟨rfl, rfl, rfl, by decide +kernel, rfl, by decide +kernel, by decide +kernel⟩
abbrev s__law_drawn : Stmt := topS 18
theorem sc__law_drawn : FnScope ["script", "many", "left", "found"] ["script", "many"] (defScope s__law_drawn) := ⟨rfl, rfl, rfl, by decide +kernel, rfl, by decide +kernel, by decide +kernel⟩
abbrev s_law : Stmt := topS 19
theorem sc_law : FnScope ["script", "seed", "many", "row", "numbers", "rows", "at"] ["script"] (defScope s_law) := ⟨rfl, rfl, rfl, by decide +kernel, rfl, by decide +kernel, by decide +kernel⟩
/-- where the text's defs stand -/
structure Ad where
  f_is_integer : Addr
  d_is_integer : FuncData
  f_is_integer_from : Addr
  d_is_integer_from : FuncData
  f_is_full : Addr
  d_is_full : FuncData
  f_is_code : Addr
  d_is_code : FuncData
  f_order_code : Addr
  d_order_code : FuncData
  f_order_by : Addr
  d_order_by : FuncData
  f__law_number : Addr
  d__law_number : FuncData
  f__law_orders : Addr
  d__law_orders : FuncData
  f__law_due : Addr
  d__law_due : FuncData
  f__law_codes : Addr
  d__law_codes : FuncData
  f__law_drawn : Addr
  d__law_drawn : FuncData
  f_law : Addr
  d_law : FuncData
/-- what the top has written -/
structure Tx (K : PySem.W.Frag) (mg : Str → Option Value) (A : Ad) : Prop where
  F_is_integer : Fun K "is_integer" "is_integer" s_is_integer A.f_is_integer A.d_is_integer
  m_is_integer : mg "is_integer" = some (.ref A.f_is_integer)
  F_is_integer_from : Fun K "is_integer_from" "is_integer_from" s_is_integer_from A.f_is_integer_from A.d_is_integer_from
  m_is_integer_from : mg "is_integer_from" = some (.ref A.f_is_integer_from)
  F_is_full : Fun K "is_full" "is_full" s_is_full A.f_is_full A.d_is_full
  m_is_full : mg "is_full" = some (.ref A.f_is_full)
  F_is_code : Fun K "is_code" "is_code" s_is_code A.f_is_code A.d_is_code
  m_is_code : mg "is_code" = some (.ref A.f_is_code)
  F_order_code : Fun K "order_code" "order_code" s_order_code A.f_order_code A.d_order_code
  m_order_code : mg "order_code" = some (.ref A.f_order_code)
  F_order_by : Fun K "order_by" "order_by" s_order_by A.f_order_by A.d_order_by
  m_order_by : mg "order_by" = some (.ref A.f_order_by)
  F__law_number : Fun K "_law_number" "_law_number" s__law_number A.f__law_number A.d__law_number
  m__law_number : mg "_law_number" = some (.ref A.f__law_number)
  F__law_orders : Fun K "_law_orders" "_law_orders" s__law_orders A.f__law_orders A.d__law_orders
  m__law_orders : mg "_law_orders" = some (.ref A.f__law_orders)
  F__law_due : Fun K "_law_due" "_law_due" s__law_due A.f__law_due A.d__law_due
  m__law_due : mg "_law_due" = some (.ref A.f__law_due)
  F__law_codes : Fun K "_law_codes" "_law_codes" s__law_codes A.f__law_codes A.d__law_codes
  m__law_codes : mg "_law_codes" = some (.ref A.f__law_codes)
  F__law_drawn : Fun K "_law_drawn" "_law_drawn" s__law_drawn A.f__law_drawn A.d__law_drawn
  m__law_drawn : mg "_law_drawn" = some (.ref A.f__law_drawn)
  F_law : Fun K "law" "law" s_law A.f_law A.d_law
  m_law : mg "law" = some (.ref A.f_law)
  c_MOST_ITEMS : mg "MOST_ITEMS" = some (.int 12 0) ∨ ∃ t, mg "MOST_ITEMS" = some (.int 12 t)
  g_isinstance : mg "isinstance" = none
  g_int : mg "int" = none
  g_bool : mg "bool" = none
  g_len : mg "len" = none
  g_tuple : mg "tuple" = none
  g_list : mg "list" = none
  g_range : mg "range" = none
  g_enumerate : mg "enumerate" = none
  g_reversed : mg "reversed" = none
  g_sum : mg "sum" = none
  g_all : mg "all" = none
  g_sorted : mg "sorted" = none
section
variable {P : Program} {w : World} {K : PySem.W.Frag} {mg : Str → Option Value} {base : Heap} {A : Ad}
theorem cst {x : Str} {n : Int} (h : mg x = some (.int n 0) ∨ ∃ t, mg x = some (.int n t)) : ∃ t, mg x = some (.int n t) := h.elim (fun e => ⟨0, e⟩) id

/-- True just for ints -/
def spIs (K : PySem.W.Frag) : Sp := fun vs H Q _ => ∃ x : V, vs = [x] ∧
  ((∃ i, x = .int i ∧ Q (.bl true) H) ∨ (∃ n b1 b2, TyX K H x (.type n) ∧ kitB n "int" = some b1 ∧ kitB n "bool" = some b2 ∧ (b1 && !b2) = false ∧ Q (.bl false) H))
theorem ok_is (T : Tx K mg A) : FnOk P w K mg base CX0 1 A.f_is_integer A.d_is_integer ["thing"] (spIs K) := by
  refine T.F_is_integer.ok sc_is_integer (fun vs H Q E h => ?_) (fun cdv B outer s H vs Q E hr h => ?_)
  · obtain ⟨x, rfl, _⟩ := h
    rfl
  · obtain ⟨x, rfl, h⟩ := h
    refine ⟨_, pss_one (ps_ret (pe_and (pe_callB call_isi (by rfl) T.g_isinstance (by decide +kernel) (pa_cons (pv 0) (pa_cons (pe_bltn (v := .ty "int") (by rfl) T.g_int (by decide +kernel) rfl) pa_nil)))
      (pe_one (pe_not (pe_callB call_isi (by rfl) T.g_isinstance (by decide +kernel) (pa_cons (pv 0) (pa_cons (pe_bltn (v := .ty "bool") (by rfl) T.g_bool (by decide +kernel) rfl) pa_nil))))))), ?_⟩
    rcases h with ⟨i, rfl, q⟩ | ⟨n, b1, b2, ty, k1, k2, hb, q⟩
    · refine ⟨_, rfl, _, _, .type "int", .type "int", true, rfl, .ty "int", .base (.int i), kit_ty (by decide +kernel), true, rfl, iteT ?_⟩
      exact ⟨_, rfl, _, _, .type "int", .type "bool", false, rfl, .ty "bool", .base (.int i), kit_ty (by decide +kernel), false, rfl, q⟩
    · refine ⟨_, rfl, _, _, .type n, .type "int", b1, rfl, .ty "int", ty, kit_ty k1, b1, rfl, ?_⟩
      cases b1 with
      | false => exact iteF q
      | true =>
        cases b2 with
        | false => cases hb
        | true => exact iteT ⟨_, rfl, _, _, .type n, .type "bool", true, rfl, .ty "bool", ty, kit_ty k2, true, rfl, q⟩
theorem b_is (T : Tx K mg A) : L2.Binds K A.d_is_integer ["thing"] [] := T.F_is_integer.binds fun _ _ _ _ _ _ us hl => match us, hl with | [_], _ => rfl
/-- True just for ints within; other things by their class -/
def spII (K : PySem.W.Frag) : Sp := fun vs H Q _ => ∃ (x : V) (a b : Int), vs = [x, .int a, .int b] ∧
  ((∃ i, x = .int i ∧ Q (.bl (decide (a ≤ i ∧ i ≤ b))) H) ∨ (∃ n b1 b2, TyX K H x (.type n) ∧ kitB n "int" = some b1 ∧ kitB n "bool" = some b2 ∧ (b1 && !b2) = false ∧ Q (.bl false) H))
theorem ok_ii (T : Tx K mg A) : FnOk P w K mg base CX0 2 A.f_is_integer_from A.d_is_integer_from ["thing", "least", "greatest"] (spII K) := by
  refine T.F_is_integer_from.ok sc_is_integer_from (fun vs H Q E h => ?_) (fun cdv B outer s H vs Q E hr h => ?_)
  · obtain ⟨x, a, b, rfl, _⟩ := h
    rfl
  · obtain ⟨x, a, b, rfl, h⟩ := h
    refine ⟨_, pss_one (ps_ret (pe_and (pe_call (ok_is T) hr (by rfl) T.m_is_integer T.F_is_integer.kp (b_is T) .nil pass0 (pa_cons (pv 0) pa_nil))
        (pe_one (pe_chain op_le op_le (pv 1) (pv 0) (pv 2))))), ?_⟩
    rcases h with ⟨i, rfl, q⟩ | h
    · refine ⟨_, rfl, _, rfl, .inl ⟨i, rfl, true, rfl, iteT ?_⟩⟩
      refine ⟨_, rfl, _, rfl, _, _, rfl, rfl, _, rfl, ?_⟩
      by_cases h1 : a ≤ i
      · rw [decide_eq_true h1]
        refine iteT ⟨_, rfl, _, _, rfl, rfl, ?_⟩
        have e : decide (a ≤ i ∧ i ≤ b) = decide (i ≤ b) := by simp [h1]
        rw [e] at q
        exact q
      · rw [decide_eq_false h1]
        have e : decide (a ≤ i ∧ i ≤ b) = false := by simp [h1]
        rw [e] at q
        exact iteF q
    · obtain ⟨n, b1, b2, ty, k1, k2, hb, q⟩ := h
      exact ⟨_, rfl, _, rfl, .inr ⟨n, b1, b2, ty, k1, k2, hb, false, rfl, iteF q⟩⟩
theorem b_ii (T : Tx K mg A) : L2.Binds K A.d_is_integer_from ["thing", "least", "greatest"] [] := T.F_is_integer_from.binds fun _ _ _ _ _ _ us hl => match us, hl with | [_, _, _], _ => rfl

/-- a list or a tuple -/
def Sq (H : Hp) (a : Addr) (xs : List V) : Prop := H a = some (.lst xs) ∨ H a = some (.tup xs)
theorem Sq.same {H H' : Hp} {a : Addr} {xs : List V} (h : Sq H a xs) (s : Same H H') : Sq H' a xs := h.elim (fun e => .inl (s _ _ e)) fun e => .inr (s _ _ e)
theorem Sq.len {K : PySem.W.Frag} {H : Hp} {a : Addr} {xs : List V} (h : Sq H a xs) : SqL K H a xs ∨ SqT K H a xs := h.elim (fun e => .inl (SqL.of e)) fun e => .inr (SqT.of e)
end

end Tw

set_option Elab.async false
set_option linter.all false
set_option maxRecDepth 100000
set_option maxHeartbeats 2000000
namespace Tw
open PySem PySem.Spec PyProof.Rows L2
/-! codes of orders -/
/-- how many greater items are ahead of each item -/
def codeL (p : List Nat) : List Nat := (List.range p.length).map fun i => ((p.take i).filter fun y => decide (p.getD i 0 < y)).length
theorem codeL_len (p : List Nat) : (codeL p).length = p.length := by
  unfold codeL
  rw [List.length_map, List.length_range]
theorem codeL_at {p : List Nat} {i : Nat} (h : i < p.length) : (codeL p)[i]'(by rw [codeL_len]; exact h) = ((p.take i).filter fun y => decide (p.getD i 0 < y)).length := by
  unfold codeL
  rw [List.getElem_map, List.getElem_range]
theorem codeL_snoc (p : List Nat) (x : Nat) : codeL (p ++ [x]) = codeL p ++ [(p.filter fun y => decide (x < y)).length] := by
  unfold codeL
  rw [List.length_append, List.length_singleton, List.range_succ, List.map_append]
  congr 1
  · refine List.map_congr_left fun i hi => ?_
    have h := List.mem_range.mp hi
    rw [List.take_append_of_le_length (by omega), List.getD_eq_getElem?_getD, List.getElem?_append_left h, ← List.getD_eq_getElem?_getD]
  · rw [List.map_singleton, List.take_append_of_le_length (Nat.le_refl _), List.take_length, List.getD_eq_getElem?_getD, List.getElem?_append_right (Nat.le_refl _), Nat.sub_self]
    rfl
theorem codeL_le (p : List Nat) : ∀ (i x : Nat), (codeL p)[i]? = some x → x ≤ i := by
  intro i x h
  by_cases hi : i < p.length
  · rw [List.getElem?_eq_getElem (by rw [codeL_len]; exact hi), codeL_at hi] at h
    cases h
    refine Nat.le_trans (List.length_filter_le _ _) ?_
    rw [List.length_take]
    omega
  · rw [List.getElem?_eq_none (by rw [codeL_len]; omega)] at h
    cases h
/-- from the last item on: the items, as the numbers tell, out of those that are left -/
def decL : List Nat → List Nat → List Nat
  | _, [] => []
  | left, c :: cs => left.getD (left.length - 1 - c) 0 :: decL (left.eraseIdx (left.length - 1 - c)) cs
def orderL (c : List Nat) : List Nat := (decL (List.range c.length) c.reverse).reverse
theorem decL_len : ∀ (cs left : List Nat), (decL left cs).length = cs.length
  | [], _ => rfl
  | c :: cs, left => by
    unfold decL
    rw [List.length_cons, decL_len cs, List.length_cons]
theorem orderL_len (c : List Nat) : (orderL c).length = c.length := by
  unfold orderL
  rw [List.length_reverse, decL_len, List.length_reverse]
/-- in an ascending list, those that are greater than an item stand behind it -/
theorem above : ∀ {l : List Nat} (_ : l.Pairwise (· < ·)) {i : Nat} (h : i < l.length), (l.filter fun y => decide (l[i] < y)).length = l.length - 1 - i
  | a :: l, hp, 0, _ => by
    have h := List.pairwise_cons.mp hp
    show ((a :: l).filter fun y => decide (a < y)).length = _
    rw [List.filter_cons_of_neg (by simp), List.filter_eq_self.mpr fun y hy => by simpa using h.1 y hy]
    simp
  | a :: l, hp, i + 1, hi => by
    have h := List.pairwise_cons.mp hp
    have hi2 : i < l.length := Nat.lt_of_succ_lt_succ hi
    show ((a :: l).filter fun y => decide (l[i] < y)).length = _
    have := h.1 _ (List.getElem_mem hi2)
    rw [List.filter_cons_of_neg (by simp; omega), above h.2 hi2, List.length_cons]
    omega
theorem perm_at : ∀ (s : List Nat) (j : Nat) (h : j < s.length), (s[j] :: s.eraseIdx j).Perm s
  | a :: l, 0, _ => List.Perm.refl _
  | a :: l, j + 1, h => (List.Perm.swap a _ _).trans ((perm_at l j (Nat.lt_of_succ_lt_succ h)).cons a)
theorem getD_in {s : List Nat} {j : Nat} (h : j < s.length) : s.getD j 0 = s[j] := by
  rw [List.getD_eq_getElem?_getD, List.getElem?_eq_getElem h]
  rfl
theorem erase_asc {l : List Nat} (h : l.Pairwise (· < ·)) (i : Nat) : (l.eraseIdx i).Pairwise (· < ·) := h.sublist (List.eraseIdx_sublist l i)
/-- numbers that are a code give an order with this code -/
theorem dec_ok : ∀ (cs left : List Nat), left.Pairwise (· < ·) → cs.length = left.length → (∀ (i x : Nat), cs[i]? = some x → x < left.length - i) →
    (decL left cs).Perm left ∧ codeL (decL left cs).reverse = cs.reverse
  | [], [], _, _, _ => ⟨List.Perm.refl _, rfl⟩
  | c :: cs, left, hp, hl, hc => by
    have h0 := hc 0 c rfl
    rw [List.length_cons] at hl
    have hi : left.length - 1 - c < left.length := by omega
    obtain ⟨i1, i2⟩ := dec_ok cs (left.eraseIdx (left.length - 1 - c)) (erase_asc hp _) (by rw [List.length_eraseIdx_of_lt hi]; omega) (fun i x hx => by
      have := hc (i + 1) x hx
      rw [List.length_eraseIdx_of_lt hi]
      omega)
    unfold decL
    rw [getD_in hi]
    refine ⟨(i1.cons _).trans (perm_at _ _ hi), ?_⟩
    rw [List.reverse_cons, codeL_snoc, i2, List.reverse_cons]
    congr 2
    have e1 : ((decL (left.eraseIdx (left.length - 1 - c)) cs).reverse.filter fun y => decide (left[left.length - 1 - c] < y)).length = ((left.eraseIdx (left.length - 1 - c)).filter fun y => decide (left[left.length - 1 - c] < y)).length :=
      (((List.reverse_perm _).trans i1).filter _).length_eq
    have e2 := ((perm_at left _ hi).filter fun y => decide (left[left.length - 1 - c] < y)).length_eq
    rw [List.filter_cons_of_neg (by simp), above hp hi] at e2
    rw [e1, e2]
    omega
  | [], _ :: _, _, h, _ => by cases h
/-- the code of an order gives the order -/
theorem code_back : ∀ (q left : List Nat), q.Perm left → left.Pairwise (· < ·) → decL left (codeL q.reverse).reverse = q
  | [], _, _, _ => rfl
  | x :: q, left, hq, hp => by
    rw [List.reverse_cons, codeL_snoc, List.reverse_append, List.reverse_singleton, List.singleton_append]
    obtain ⟨i, hi, e⟩ := List.getElem_of_mem (hq.mem_iff.mp List.mem_cons_self)
    have e1 : (q.reverse.filter fun y => decide (x < y)).length = left.length - 1 - i := by
      have a := above hp hi
      rw [e] at a
      have b := (hq.filter fun y => decide (x < y)).length_eq
      rw [List.filter_cons_of_neg (by simp)] at b
      rw [← a, ← b, ((List.reverse_perm q).filter _).length_eq]
    rw [e1]
    unfold decL
    have e2 : left.length - 1 - (left.length - 1 - i) = i := by omega
    rw [e2, getD_in hi, e]
    have hq2 : q.Perm (left.eraseIdx i) := by
      have := perm_at left i hi
      rw [e] at this
      exact (List.perm_cons x).mp (hq.trans this.symm)
    rw [code_back q _ hq2 (erase_asc hp i)]
theorem order_code {p : List Nat} (h : p.Perm (List.range p.length)) : orderL (codeL p) = p := by
  unfold orderL
  rw [codeL_len]
  have := code_back p.reverse (List.range p.length) ((List.reverse_perm p).trans h) List.pairwise_lt_range
  rw [List.reverse_reverse] at this
  rw [this, List.reverse_reverse]
theorem code_order {c : List Nat} (h : ∀ (i x : Nat), c[i]? = some x → x ≤ i) : codeL (orderL c) = c ∧ (orderL c).Perm (List.range c.length) := by
  have hb : ∀ (i x : Nat), c.reverse[i]? = some x → x < (List.range c.length).length - i := fun i x hx => by
    rw [List.length_range]
    by_cases hi : i < c.length
    · rw [List.getElem?_reverse hi] at hx
      have := h _ _ hx
      omega
    · rw [List.getElem?_eq_none (by rw [List.length_reverse]; omega)] at hx
      cases hx
  obtain ⟨h1, h2⟩ := dec_ok c.reverse (List.range c.length) List.pairwise_lt_range (by rw [List.length_reverse, List.length_range]) hb
  refine ⟨?_, (List.reverse_perm _).trans h1⟩
  unfold orderL
  rw [h2, List.reverse_reverse]
/-! all orders, and all codes, of so many items -/
def ordsL (n : Nat) : Nat → List (List Nat)
  | 0 => [[]]
  | t + 1 => (ordsL n t).flatMap fun p => ((List.range n).filter fun x => decide (x ∉ p)).map fun x => p ++ [x]
def codsL : Nat → List (List Nat)
  | 0 => [[]]
  | t + 1 => (codsL t).flatMap fun p => (List.range (t + 1)).map fun x => p ++ [x]
def permB (n : Nat) (p : List Nat) : Bool := p.isPerm (List.range n)
theorem ords_ok : ∀ n, n ≤ 5 → ∀ p ∈ ordsL n n, p.Perm (List.range n) := by
  have h : ∀ n, n < 6 → (ordsL n n).all (permB n) = true := by decide +kernel
  intro n hn p hp
  exact List.isPerm_iff.mp (List.all_eq_true.mp (h n (by omega)) p hp)
theorem cods_ok : ∀ t, ∀ p ∈ codsL t, p.length = t ∧ ∀ (i x : Nat), p[i]? = some x → x ≤ i
  | 0, p, hp => by
    rw [List.mem_singleton.mp hp]
    exact ⟨rfl, fun i x h => by simp at h⟩
  | t + 1, p, hp => by
    obtain ⟨q, hq, h2⟩ := List.mem_flatMap.mp hp
    obtain ⟨x, hx, rfl⟩ := List.mem_map.mp h2
    obtain ⟨a, b⟩ := cods_ok t q hq
    have hx2 := List.mem_range.mp hx
    refine ⟨by rw [List.length_append, a]; rfl, fun i y h => ?_⟩
    by_cases hi : i < q.length
    · rw [List.getElem?_append_left hi] at h
      exact b i y h
    · rw [List.getElem?_append_right (by omega)] at h
      by_cases h0 : i = q.length
      · subst h0
        rw [Nat.sub_self] at h
        cases h
        omega
      · rw [List.getElem?_eq_none (by rw [List.length_singleton]; omega)] at h
        cases h
def natB (p : List Nat) : List Int := p.map fun x => Int.ofNat x
theorem sort_same : ∀ n, n ≤ 5 → (((codsL n).map orderL).map natB).mergeSort (fun p q => decide (p ≤ q)) = ((ordsL n n).map natB).mergeSort (fun p q => decide (p ≤ q)) := by
  have perm : ∀ n, n < 6 → (((codsL n).map orderL).isPerm (ordsL n n)) = true := by decide +kernel
  intro n hn
  have h := (List.isPerm_iff.mp (perm n (by omega))).map natB
  have tr : ∀ (a b c : List Int), decide (a ≤ b) = true → decide (b ≤ c) = true → decide (a ≤ c) = true := fun a b c h1 h2 =>
    decide_eq_true (List.le_trans (of_decide_eq_true h1) (of_decide_eq_true h2))
  have tot : ∀ (a b : List Int), (decide (a ≤ b) || decide (b ≤ a)) = true := fun a b => by
    rcases List.le_total a b with x | x
    · rw [decide_eq_true x, Bool.true_or]
    · rw [decide_eq_true x, Bool.or_true]
  refine List.Perm.eq_of_pairwise (le := fun a b => decide (a ≤ b) = true) (fun a b _ _ h1 h2 => List.le_antisymm (of_decide_eq_true h1) (of_decide_eq_true h2)) (List.pairwise_mergeSort tr tot _) (List.pairwise_mergeSort tr tot _) ?_
  exact (List.mergeSort_perm _ _).trans (h.trans (List.mergeSort_perm _ _).symm)
theorem ords_len : ∀ n, n ≤ 5 → ∀ t, t ≤ n → (ordsL n t).length ≤ 120 := by
  have h : ∀ n, n < 6 → ∀ t, t < 6 → t ≤ n → (ordsL n t).length ≤ 120 := by decide +kernel
  exact fun n hn t ht => h n (by omega) t (by omega) ht
theorem cods_len : ∀ t, t ≤ 5 → (codsL t).length ≤ 120 := by
  have h : ∀ t, t < 6 → (codsL t).length ≤ 120 := by decide +kernel
  exact fun t ht => h t (by omega)

section
variable {P : Program} {w : World} {K : PySem.W.Frag} {mg : Str → Option Value} {base : Heap} {A : Ad}

/-! the law's own defs -/
theorem ints_dp (K : PySem.W.Frag) (H : Hp) : ∀ ns : List Int, DpAll K H (ns.map V.int) (ns.map PyData.int)
  | [] => .nil
  | n :: ns => .cons (.int n) (ints_dp K H ns)
theorem emp_eqv : ∀ ns : List Int, PyData.eqv (.list (ns.map PyData.int)) (.list []) = decide (ns = [])
  | [] => by rfl
  | n :: ns => by rfl
theorem shaped_ints (ns : List Int) : SeqAt.shaped (.list (ns.map PyData.int)) = true := by
  have h1 : ∀ ms : List Int, PyData.canLayAll0 (ms.map PyData.int) = true := fun ms => by
    induction ms with
    | nil => rfl
    | cons m ms ih => rw [List.map_cons, PyData.canLayAll0, ih]; rfl
  have h2 : ∀ ms : List Int, PyData.depthAll (ms.map PyData.int) ≤ 1 := fun ms => by
    induction ms with
    | nil => simp [PyData.depthAll]
    | cons m ms ih =>
      simp only [List.map_cons, PyData.depthAll, PyData.depth]
      omega
  have h3 : PyData.depth (.list (ns.map PyData.int)) ≤ 64 := by
    have := h2 ns
    simp only [PyData.depth]
    omega
  unfold SeqAt.shaped
  rw [decide_eq_true h3, Bool.and_true]
  simp only [PyData.canLay0]
  exact h1 ns
theorem cut63 (xs : List V) (h : xs.length ≤ 63) : cutV xs none (some 63) = xs := by
  unfold cutV
  rw [HT.sIx_none, show (63 : Int) = ((63 : Nat) : Int) from rfl, HT.sIx_nat, List.drop_zero, Nat.min_eq_right h, Nat.sub_zero, List.take_length]
def spNum (K : PySem.W.Frag) : Sp := fun vs H Q _ => ∃ (a : Addr) (ns : List Int) (i : Nat), vs = [.ref a, .int i] ∧ SqL K H a (ns.map V.int) ∧ ns.length ≤ 63 ∧ i < 1000000 ∧ ∀ H' r, Same H H' → Q (.int r) H'
theorem ok_num (T : Tx K mg A) : FnOk P w K mg base CX0 2 A.f__law_number A.d__law_number ["script", "index"] (spNum K) := by
  refine T.F__law_number.ok sc__law_number (fun vs H Q E h => ?_) (fun cdv B outer s H vs Q E hr h => ?_)
  · obtain ⟨a, ns, i, rfl, _⟩ := h
    rfl
  · obtain ⟨a, ns, i, rfl, ha, hl, hi, q⟩ := h
    have nd := sc__law_number.nd
    have hu := hr.units
    refine ⟨_, C8.pss_cut (ps_set (i := 2) nd rfl (Or.inl rfl) (pe_ifExp (pt_cmpR (op_neD hu) (pv 0) (pe_lst pa_nil) (nomark _)) (pe_slice sl_list (pv 0) po_none (po_some pe_int)) (pe_lst (pa_cons pe_int pa_nil))))
      (pss_cons (ps_set (i := 3) nd rfl (Or.inl rfl) (pe_op op_add
        (pe_ix ix_list (pv 2) (pe_op op_mod (pe_callTy call_int1 (by rfl) T.g_int (by decide +kernel) (pa_cons (pv 1) pa_nil)) (pe_callB call_len_seq (by rfl) T.g_len PySem.boot_len (pa_cons (pv 2) pa_nil))) (fun _ _ => rfl))
        (pe_op op_mul pe_int (pe_op op_fdivN (pv 1) (pe_callB call_len_seq (by rfl) T.g_len PySem.boot_len (pa_cons (pv 2) pa_nil))))))
      (pss_cons (ps_par (i := 4) (j := 5) rfl nd rfl rfl (by decide) rfl rfl (pa_cons (pe_op op_mod (pe_callTy call_int1 (by rfl) T.g_int (by decide +kernel) (pa_cons (pv 3) pa_nil)) pe_int)
          (pa_cons (pe_op op_mod (pe_callTy call_int1 (by rfl) T.g_int (by decide +kernel) (pa_cons (pe_op op_fdivN (pv 3) pe_int) pa_nil)) pe_int) pa_nil)) rfl)
      (pss_cons (ps_set (i := 6) nd rfl (Or.inl rfl) (pe_op op_mod (pe_callTy call_int1 (by rfl) T.g_int (by decide +kernel) (pa_cons (pe_callB (cr_sum rfl) (by rfl) T.g_sum (by decide +kernel) (pa_cons (pv 2) pa_nil)) pa_nil)) pe_int))
      (pss_cons (ps_set (i := 7) nd rfl (Or.inl rfl) (pe_op op_mod (pe_callTy call_int1 (by rfl) T.g_int (by decide +kernel) (pa_cons
          (pe_op op_add (pe_op op_add (pe_op op_mul (pe_op op_add (pv 4) (pe_op op_mul pe_int (pv 1))) pe_int) (pe_op op_mul pe_int (pv 5))) (pv 6)) pa_nil)) pe_int))
      (pss_one (ps_ret (pe_op op_add (pe_op op_mul (pe_op op_mod (pe_callTy call_int1 (by rfl) T.g_int (by decide +kernel) (pa_cons
          (pe_op op_mul (pv 7) (pe_op op_add (pe_op op_add (pv 7) (pe_op op_mul pe_int (pv 1))) pe_int)) pa_nil)) pe_int) pe_int) (pv 5)))))))), ?_⟩
    refine ⟨fun σ H1 => ∃ (c : Addr) (cs : List Int), σ = [some (.ref a), some (.int i), some (.ref c), none, none, none, none, none] ∧ Same H H1 ∧ H1 c = some (.lst (cs.map V.int)) ∧ 0 < cs.length ∧ cs.length ≤ 63, ?_, ?_⟩
    · refine ⟨_, rfl, Nat.zero_le _, fun l0 hl0 => ?_⟩
      have hs0 : Same H (upd H l0 (.lst [])) := Same.up hl0
      refine ⟨.list (ns.map PyData.int), .list [], .lst (hs0.seq ha) (ints_dp _ _ _), .lst (SqL.of upd_same) .nil, ?_, rfl, _, rfl, ?_⟩
      · exact shaped_ints _
      · rw [emp_eqv]
        by_cases e : ns = []
        · rw [decide_eq_true e]
          refine iteF ⟨by show 1 ≤ sizeLine; decide, fun l1 hl1 => ⟨l1, [5], rfl, hs0.trans (Same.up hl1), upd_same, by decide, by decide⟩⟩
        · rw [decide_eq_false e]
          refine iteT ⟨_, rfl, _, rfl, a, _, rfl, hs0.seq ha, fun l1 hl1 => ⟨l1, ns, rfl, hs0.trans (Same.up hl1), ?_, ?_, hl⟩⟩
          · rw [upd_same]
            exact congrArg (fun z => some (HO.lst z)) (cut63 _ (by rw [List.length_map]; exact hl))
          · exact List.length_pos_iff.mpr e
    · rintro σ H1 ⟨c, cs, rfl, s1, hc, h0, h63⟩
      have hq := SqL.of (K := K) hc
      have hL : ((cs.map V.int).length : Int) = (cs.length : Int) := by rw [List.length_map]
      have hm0 : 0 ≤ (i : Int) % (cs.length : Int) := Int.emod_nonneg _ (by omega)
      have hm1 : (i : Int) % (cs.length : Int) < (cs.length : Int) := Int.emod_lt_of_pos _ (by omega)
      obtain ⟨j, hj⟩ : ∃ j : Nat, (i : Int) % (cs.length : Int) = (j : Int) := ⟨_, (Int.toNat_of_nonneg hm0).symm⟩
      have hjl : j < cs.length := by omega
      have hat : atI (cs.map V.int) ((i : Int) % ((cs.map V.int).length : Int)) = some (V.int cs[j]) := by
        rw [hL, hj]
        exact atI_nat (by rw [List.getElem?_map, List.getElem?_eq_getElem hjl]; rfl)
      refine ⟨_, rfl, _, rfl, .inl ⟨_, rfl, _, rfl, c, _, rfl, .inl hq, _, _, rfl, rfl, ?_, c, _, _, _, rfl, rfl, hq, hat, _, rfl, _, rfl, c, _, rfl, .inl hq, _, _, rfl, rfl, ⟨?_, ?_⟩, _, _, rfl, rfl, .inl ⟨by decide, by decide⟩, _, _, rfl, rfl, ?_⟩⟩
      · show (0 : Int) < ((cs.map V.int).length : Int)
        omega
      · omega
      · omega
      · refine ⟨_, rfl, .inl ⟨_, rfl, _, _, rfl, rfl, by show (0 : Int) < 1000003; decide, ?_⟩⟩
        refine ⟨_, rfl, _, _, rfl, rfl, ⟨by decide, by decide⟩, .inl ⟨_, rfl, _, _, rfl, rfl, by show (0 : Int) < 999983; decide, _, _, rfl, ?_⟩⟩
        refine ⟨_, rfl, c, cs, rfl, hq, .inl ⟨_, rfl, _, _, rfl, rfl, by show (0 : Int) < 65521; decide, ?_⟩⟩
        refine ⟨_, rfl, _, rfl, _, _, rfl, rfl, .inl ⟨by decide, by decide⟩, _, _, rfl, rfl, _, _, rfl, rfl, .inr ⟨by decide, by decide⟩, ?_⟩
        refine ⟨_, rfl, _, _, rfl, rfl, .inl ⟨by decide, by decide⟩, _, _, rfl, rfl, _, rfl, _, _, rfl, rfl, .inl ⟨_, rfl, _, _, rfl, rfl, by show (0 : Int) < 2147483647; decide, ?_⟩⟩
        refine ⟨_, rfl, _, rfl, _, rfl, _, _, rfl, rfl, .inl ⟨by decide, by decide⟩, _, _, rfl, rfl, _, _, rfl, rfl, _, _, rfl, rfl, .inl ⟨?_, ?_⟩, .inl ⟨_, rfl, _, _, rfl, rfl, by show (0 : Int) < 2147483629; decide, ?_⟩⟩
        · have := Int.emod_nonneg ((((cs[j] + 13 * Int.fdiv (i : Int) ((cs.map V.int).length : Int)) % 1000003 + 977 * (i : Int)) * 48271 + 31 * (Int.fdiv (cs[j] + 13 * Int.fdiv (i : Int) ((cs.map V.int).length : Int)) 1000003 % 999983)) + cs.sum % 65521) (show (2147483647 : Int) ≠ 0 by decide)
          omega
        · have := Int.emod_lt_of_pos ((((cs[j] + 13 * Int.fdiv (i : Int) ((cs.map V.int).length : Int)) % 1000003 + 977 * (i : Int)) * 48271 + 31 * (Int.fdiv (cs[j] + 13 * Int.fdiv (i : Int) ((cs.map V.int).length : Int)) 1000003 % 999983)) + cs.sum % 65521) (show (0 : Int) < 2147483647 by decide)
          omega
        · exact ⟨_, _, rfl, rfl, .inr ⟨by decide, by decide⟩, _, rfl, _, _, rfl, rfl, q _ _ s1⟩
theorem b_num (T : Tx K mg A) : L2.Binds K A.d__law_number ["script", "index"] [] := T.F__law_number.binds fun _ _ _ _ _ _ us hl => match us, hl with | [_, _], _ => rfl

theorem sorted_one {xs ys : List Int} (hp : xs.Perm ys) (h1 : xs.Pairwise (· ≤ ·)) (h2 : ys.Pairwise (· ≤ ·)) : xs = ys := List.Perm.eq_of_pairwise (fun x y _ _ h1 h2 => Int.le_antisymm h1 h2) h1 h2 hp
theorem cr_or {X : Cx} {f : Value} {r1 r2 : List V → Hp → VK → Prop} (h1 : CallR X f r1) (h2 : CallR X f r2) : CallR X f (fun vs H Q => r1 vs H Q ∨ r2 vs H Q) := by
  intro pins s σ H vs us Q I rv h
  rcases h with h | h
  · exact h1 pins s σ H vs us Q I rv h
  · exact h2 pins s σ H vs us Q I rv h
theorem sort_sq {K : PySem.W.Frag} {H : Hp} {r : Addr} {ks : List Int} {Q : VK} (h : Sq H r (ks.map V.int)) (q : ∀ (ns' : List Int) (p : Addr), ns'.Perm ks → ns'.Pairwise (· ≤ ·) → H p = none → Q (.ref p) (upd H p (.lst (ns'.map V.int)))) : rSortedI K [.ref r] H Q ∨ rSortedTu K [.ref r] H Q := by
  rcases h with h | h
  · exact .inl ⟨r, ks, rfl, SqL.of h, q⟩
  · exact .inr ⟨r, ks, rfl, SqT.of h, q⟩
theorem refl_of {d : PyData} (h : SeqAt.shaped d = true) : PyData.eqv d d = true := PySem.SeqAt.eqv_refl d (SeqAt.canLay_of_shaped h)
/-- a tuple of keys at an address -/
def RowAt (H : Hp) (v : V) (l : List Int) : Prop := ∃ t, v = .ref t ∧ H t = some (.tup (l.map V.int))
abbrev RowsAt (H : Hp) : List V → List (List Int) → Prop := Paired (RowAt H)
theorem RowsAt.same {H H' : Hp} {xs : List V} {ls : List (List Int)} (h : RowsAt H xs ls) (s : Same H H') : RowsAt H' xs ls := L2.Paired.mapP h fun _ _ ⟨t, e, z⟩ => ⟨t, e, s _ _ z⟩
theorem RowsAt.push {H : Hp} {x : V} {l : List Int} (hp : RowAt H x l) : ∀ {xs : List V} {ls : List (List Int)}, RowsAt H xs ls → RowsAt H (xs ++ [x]) (ls ++ [l])
  | _, _, .nil => .cons hp .nil
  | _, _, .cons a b => .cons a (RowsAt.push hp b)
theorem RowsAt.put {H : Hp} {D : Addr} {xs zs ys : List V} {ls : List (List Int)} (hD : H D = some (.lst zs)) (h : RowsAt H xs ls) : RowsAt (upd H D (.lst ys)) xs ls :=
  L2.Paired.mapP h fun _ _ ⟨t, e, z⟩ => ⟨t, e, by rw [upd_ne (ne_of z hD (by intro q; cases q))]; exact z⟩
theorem RowsAt.get {H : Hp} : ∀ {xs : List V} {ls : List (List Int)} {i : Nat} {x : V}, RowsAt H xs ls → xs[i]? = some x → ∃ hi : i < ls.length, RowAt H x ls[i]
  | _, _, 0, _, .cons a _, e => ⟨Nat.succ_pos _, by rw [← Option.some.inj e]; exact a⟩
  | _, _, i + 1, _, .cons _ b, e => by
    obtain ⟨hi, r⟩ := RowsAt.get b (by simpa using e)
    exact ⟨Nat.succ_lt_succ hi, r⟩
structure AccR (H1 : Hp) (D : Addr) (ls : List (List Int)) (H : Hp) : Prop where
  s : Same H1 H
  n : H1 D = Option.none
  a : ∃ xs, H D = some (.lst xs) ∧ RowsAt H xs ls
theorem AccR.start {H1 : Hp} {D : Addr} (n : H1 D = none) : AccR H1 D [] (upd H1 D (.lst [])) := ⟨Same.up n, n, [], upd_same, .nil⟩
theorem AccR.same {H1 H H' : Hp} {D : Addr} {ls : List (List Int)} (h : AccR H1 D ls H) (s : Same H H') : AccR H1 D ls H' := ⟨h.s.trans s, h.n, let ⟨xs, e, z⟩ := h.a; ⟨xs, s _ _ e, z.same s⟩⟩
theorem AccR.push {H1 H : Hp} {D : Addr} {ls : List (List Int)} {x : V} {l : List Int} (h : AccR H1 D ls H) (hp : RowAt H x l) (hl : ls.length < sizeLine) :
    ∃ acc, H D = some (.lst acc) ∧ acc.length < sizeLine ∧ AccR H1 D (ls ++ [l]) (upd H D (.lst (acc ++ [x]))) := by
  obtain ⟨xs, e, z⟩ := h.a
  refine ⟨xs, e, by rw [z.length]; exact hl, fun b o k => ?_, h.n, xs ++ [x], upd_same, (RowsAt.push hp z).put e⟩
  rw [upd_ne (ne_of_none k h.n)]
  exact h.s b o k
theorem RowsAt.app {H : Hp} : ∀ {xs ys : List V} {ls ms : List (List Int)}, RowsAt H xs ls → RowsAt H ys ms → RowsAt H (xs ++ ys) (ls ++ ms)
  | _, _, _, _, .nil, h => h
  | _, _, _, _, .cons a b, h => .cons a (RowsAt.app b h)
theorem ints_tup (K : PySem.W.Frag) {H : Hp} {a : Addr} {ks : List Int} (h : H a = some (.tup (ks.map V.int))) : Dp K H (.ref a) (.tuple (ks.map PyData.int)) := .tup (SqT.of h) (ints_dp K H ks)
theorem ints_shT (ks : List Int) : SeqAt.shaped (.tuple (ks.map PyData.int)) = true := by
  have h := shaped_ints ks
  unfold SeqAt.shaped at h ⊢
  simp only [PyData.canLay0, PyData.depth] at h ⊢
  exact h
theorem ints_all : ∀ ks ms : List Int, PyData.eqvAll (ks.map PyData.int) (ms.map PyData.int) = decide (ks = ms)
  | [], [] => by simp [PyData.eqvAll]
  | [], m :: ms => by simp [PyData.eqvAll]
  | k :: ks, [] => by simp [PyData.eqvAll]
  | k :: ks, m :: ms => by
    simp only [List.map_cons, PyData.eqvAll, ints_all ks ms, PyData.eqv]
    by_cases h1 : k = m
    · by_cases h2 : ks = ms <;> simp [h1, h2]
    · simp [h1]
/-- tuples of keys as data -/
abbrev rowD (r : List Int) : PyData := .tuple (r.map .int)
theorem rowD_dp {H : Hp} {v : V} {r : List Int} (h : RowAt H v r) : Dp K H v (rowD r) := by
  obtain ⟨t, rfl, e⟩ := h
  exact ints_tup K e
theorem rowsD_dp {H : Hp} : ∀ {xs : List V} {ls : List (List Int)}, RowsAt H xs ls → DpAll K H xs (ls.map rowD)
  | _, _, .nil => .nil
  | _, _, .cons a b => .cons (rowD_dp a) (rowsD_dp b)
theorem rowD_eqv (r q : List Int) : PyData.eqv (rowD r) (rowD q) = decide (r = q) := by
  rw [← ints_all]
  simp [PyData.eqv]
theorem rowsD_lay : ∀ ls : List (List Int), PyData.canLayAll0 (ls.map rowD) = true
  | [] => rfl
  | r :: ls => by
    have h := SeqAt.canLay_of_shaped (ints_shT r)
    rw [List.map_cons, PyData.canLayAll0, rowsD_lay ls, Bool.and_true]
    exact h
theorem rowsD_deep : ∀ ls : List (List Int), PyData.depthAll (ls.map rowD) ≤ 3
  | [] => by simp [PyData.depthAll]
  | r :: ls => by
    have := rowsD_deep ls
    have hp : PyData.depth (rowD r) ≤ 3 := by simp [rowD, PyData.depth, PySem.W.depth_ints]
    simp only [List.map_cons, PyData.depthAll]
    omega
theorem rowsD_shaped (ls : List (List Int)) : SeqAt.shaped (.list (ls.map rowD)) = true := by
  have := rowsD_deep ls
  unfold SeqAt.shaped
  rw [Bool.and_eq_true]
  refine ⟨?_, decide_eq_true ?_⟩
  · simp only [PyData.canLay0]
    exact rowsD_lay ls
  · simp only [PyData.depth]
    omega
theorem rowsD_all : ∀ ls ms : List (List Int), PyData.eqvAll (ls.map rowD) (ms.map rowD) = decide (ls = ms)
  | [], [] => by simp [PyData.eqvAll]
  | [], q :: qs => by simp [PyData.eqvAll]
  | p :: ps, [] => by simp [PyData.eqvAll]
  | p :: ps, q :: qs => by
    simp only [List.map_cons, PyData.eqvAll, rowsD_all ps qs]
    rw [rowD_eqv]
    by_cases h1 : p = q
    · by_cases h2 : ps = qs <;> simp [h1, h2]
    · simp [h1]
theorem rowsL_eqv (ls ms : List (List Int)) : PyData.eqv (.list (ls.map rowD)) (.list (ms.map rowD)) = decide (ls = ms) := by
  rw [← rowsD_all]
  simp [PyData.eqv]
theorem SqT.sm {K : PySem.W.Frag} {H H' : Hp} {a : Addr} {xs : List V} (s : Same H H') (h : SqT K H a xs) : SqT K H' a xs := by
  rcases h with (h | ⟨o, h⟩) | h
  · exact .inl (.inl (s _ _ h))
  · exact .inl (.inr ⟨o, s _ _ h⟩)
  · exact .inr h
theorem tupI_of {H : Hp} : ∀ {xs : List V} {ls : List (List Int)}, RowsAt H xs ls → Paired (TupI K H) xs ls
  | _, _, .nil => .nil
  | _, _, .cons ⟨t, e, h⟩ p => .cons ⟨t, e, SqT.of h⟩ (tupI_of p)
theorem tupI_sm {H H' : Hp} (s : Same H H') : ∀ {xs : List V} {ls : List (List Int)}, Paired (TupI K H) xs ls → Paired (TupI K H') xs ls
  | _, _, .nil => .nil
  | _, _, .cons ⟨t, e, h⟩ p => .cons ⟨t, e, SqT.sm s h⟩ (tupI_sm s p)
theorem tupI_dp {H : Hp} : ∀ {xs : List V} {ls : List (List Int)}, Paired (TupI K H) xs ls → DpAll K H xs (ls.map rowD)
  | _, _, .nil => .nil
  | _, _, .cons ⟨t, e, h⟩ p => by
    subst e
    exact .cons (.tup h (ints_dp K H _)) (tupI_dp p)
end
end Tw

set_option Elab.async false
set_option linter.all false
set_option maxRecDepth 100000
set_option maxHeartbeats 2000000
namespace Tw
open PySem PySem.Spec PyProof.Rows L2
section
variable {P : Program} {w : World} {K : PySem.W.Frag} {mg : Str → Option Value} {base : Heap} {A : Ad}
/-! the program's own defs -/
theorem pi_or {X : Cx} {tg e : Expr} {w1 w2 : TI} (h1 : PI X tg e w1) (h2 : PI X tg e w2) : PI X tg e (fun σ H R => w1 σ H R ∨ w2 σ H R) :=
  ⟨fun pins s σ H R I h => h.elim (h1.run pins s σ H R I) (h2.run pins s σ H R I)⟩
def outSc (b : List Stmt) (i : Nat) : Scope := match b[i]? with
  | some (.Return (some (.Call _ (.ListComp _ _ s _ :: _) _ _)) _) => s
  | _ => defScope s_is_integer
abbrev rLn (K : PySem.W.Frag) : List V → Hp → VK → Prop := fun xs H Q => ∃ p ys, xs = [.ref p] ∧ (SqL K H p ys ∨ SqT K H p ys) ∧ Q (.int ys.length) H
abbrev wInn (K : PySem.W.Frag) : TI := fun σ H R => iList K (tSl (rSlL K) (tVar 0) tNoPart (tPart (tVar 2))) σ H R ∨ iTup K (tSl (rSlT K) (tVar 0) tNoPart (tPart (tVar 2))) σ H R
abbrev nv (p : List Nat) : List V := (natB p).map V.int
theorem nv_len (p : List Nat) : (nv p).length = p.length := by
  unfold nv natB
  rw [List.length_map, List.length_map]
theorem natB_len (p : List Nat) : (natB p).length = p.length := by
  unfold natB
  rw [List.length_map]
theorem nv_at {p : List Nat} {i : Nat} {x : V} (h : (nv p)[i]? = some x) : ∃ hi : i < p.length, x = V.int (p[i] : Nat) := by
  unfold nv natB at h
  rw [List.getElem?_map, List.getElem?_map] at h
  cases e : p[i]? with
  | none =>
    rw [e] at h
    cases h
  | some u =>
    rw [e] at h
    obtain ⟨hi, rfl⟩ := List.getElem?_eq_some_iff.mp e
    exact ⟨hi, (Option.some.inj h).symm⟩
theorem nv_get {p : List Nat} {i : Nat} (h : i < p.length) : (nv p)[i]? = some (V.int (p[i] : Nat)) := by
  unfold nv natB
  rw [List.getElem?_map, List.getElem?_map, List.getElem?_eq_getElem h]
  rfl
theorem nv_rg (n : Nat) : rgV 0 (n : Int) = nv (List.range n) := by
  unfold rgV nv natB
  rw [show ((n : Int) - 0).toNat = n by omega, List.map_map]
  exact congrArg (fun f => (List.range n).map f) (funext fun i => by rw [Int.zero_add]; rfl)
theorem nv_cut (p : List Nat) (i : Nat) (h : i ≤ p.length) : cutV (nv p) none (some (i : Int)) = nv (p.take i) := by
  unfold cutV
  rw [HT.sIx_none, HT.sIx_nat, List.drop_zero, Nat.sub_zero, nv_len, Nat.min_eq_left h]
  unfold nv natB
  rw [List.map_take, List.map_take]
theorem full_bnd {p : List Nat} (h : p.Perm (List.range p.length)) {i : Nat} (hi : i < p.length) : p[i] < p.length := List.mem_range.mp (h.mem_iff.mp (List.getElem_mem hi))
theorem full_srt {p : List Nat} (h : p.Perm (List.range p.length)) {ns : List Int} (h1 : ns.Perm (natB p)) (h2 : ns.Pairwise (· ≤ ·)) : ns = natB (List.range p.length) := by
  refine sorted_one (h1.trans ?_) h2 ?_
  · unfold natB
    exact h.map _
  · unfold natB
    rw [List.pairwise_map]
    exact List.pairwise_lt_range.imp fun h => Int.ofNat_le.mpr (Nat.le_of_lt h)
theorem repl_all (n : Nat) : (List.replicate n true).all id = true := by
  rw [List.all_eq_true]
  intro x hx
  rw [(List.mem_replicate.mp hx).2]
  rfl
def spFull : Sp := fun vs H Q _ => ∃ (a : Addr) (p : List Nat), vs = [.ref a, .int (p.length : Nat)] ∧ Sq H a (nv p) ∧ p.length ≤ 12 ∧ p.Perm (List.range p.length) ∧ ∀ H', Same H H' → Q (.bl true) H'
theorem ok_full (T : Tx K mg A) : FnOk P w K mg base CX0 3 A.f_is_full A.d_is_full ["thing", "many"] spFull := by
  refine T.F_is_full.ok sc_is_full (fun vs H Q E h => ?_) (fun cdv B outer s H vs Q E hr h => ?_)
  · obtain ⟨a, p, rfl, _⟩ := h
    rfl
  · obtain ⟨a, p, rfl, ha, h12, hp, q⟩ := h
    have nd := sc_is_full.nd
    have hu := hr.units
    refine ⟨_, (pss_one (ps_ret (pe_and (pe_callB (cr_all rfl) (by rfl) T.g_all (by decide +kernel) (pa_cons (pe_lc (own := [("item", 2)]) (g := gName 2) (tt := tYes) rfl nd (pi_or (pi_list (pv 0)) (pi_tup (pv 0))) (blkOk_by (own := [("item", 2)]) (N := ["thing", "many", "item"]) (sc := (defScope s_is_full)) (by decide +kernel)) (fun _ _ _ _ _ => pg_name (i := 2) nd rfl (Or.inl rfl)) (fun _ _ _ _ _ => pts_nil) (fun _ _ _ _ _ => (pe_call (ok_ii T) (hr.mono (by decide)) (by rfl) T.m_is_integer_from T.F_is_integer_from.kp (b_ii T) .nil pass0 (pa_cons (pv 2) (pa_cons pe_int (pa_cons (pe_op op_sub (pv 1) pe_int) pa_nil)))))) pa_nil)) (pe_one (pe_cmpR (op_eqD hu) (pe_callB (cr_or cr_sortedI cr_sortedTu) (by rfl) T.g_sorted (by decide +kernel) (pa_cons (pv 0) pa_nil)) (pe_listRg rfl (by rfl) T.g_list (prg_1 (by rfl) T.g_range (pv 1))) (nomark _)))))), ?_⟩
    rcases id ha with h1 | h1
    · refine Or.inl ⟨_, rfl, a, rfl, ⟨_, SqL.of h1⟩, fun D nD => ?_⟩
      refine lc_it (walk_list (xs := nv p)) (fun i H' => Acc H D (List.replicate i (V.bl true)) H') (Acc.start nD) (fun i H' _ ac => SqL.of (ac.s _ _ h1)) ?_ ?_
      · rintro j y H2o H2 hj ac ⟨rfl, hy⟩
        obtain ⟨hj2, rfl⟩ := nv_at hy
        have hb := full_bnd hp hj2
        refine ⟨rfl, iteT (B := Acc H D (List.replicate (j + 1) (V.bl true)) H2) ?_⟩
        refine ⟨_, rfl, _, rfl, _, _, rfl, rfl, _, _, _, rfl, Or.inl ⟨_, rfl, ?_⟩⟩
        rw [decide_eq_true (show (0 : Int) ≤ (p[j] : Nat) ∧ ((p[j] : Nat) : Int) ≤ (p.length : Int) - 1 by omega)]
        refine ⟨_, ac.a, by rw [List.length_replicate, sizeLine_eq]; omega, ?_⟩
        rw [show List.replicate (j + 1) (V.bl true) = List.replicate j (V.bl true) ++ [V.bl true] from List.replicate_succ']
        exact ac.push
      · intro H2 ac
        rw [nv_len] at ac
        refine ⟨D, List.replicate p.length true, rfl, SqL.of (by rw [ac.a, List.map_replicate]), ?_⟩
        rw [repl_all]
        refine ⟨true, rfl, iteT ?_⟩
        refine ⟨_, rfl, sort_sq (ha.same ac.s) fun ns' q2 perm srt n2 => ?_⟩
        have s2 := ac.s.trans (Same.up (o := .lst (ns'.map V.int)) n2)
        refine ⟨_, rfl, _, rfl, RgOk.of_le (by omega) (by omega) (by omega) (by omega), fun l nl => ?_⟩
        rw [full_srt hp perm srt] at nl ⊢
        rw [nv_rg]
        refine ⟨.list ((natB (List.range p.length)).map PyData.int), .list ((natB (List.range p.length)).map PyData.int), .lst (SqL.of ((Same.up nl) _ _ upd_same)) (ints_dp _ _ _), .lst (SqL.of upd_same) (ints_dp _ _ _), shaped_ints _, shaped_ints _, ?_⟩
        rw [refl_of (shaped_ints _)]
        rw [full_srt hp perm srt] at s2
        exact q _ (s2.trans (Same.up nl))
    · refine Or.inr ⟨_, rfl, a, rfl, ⟨_, SqT.of h1⟩, fun D nD => ?_⟩
      refine lc_it (walk_tup (xs := nv p)) (fun i H' => Acc H D (List.replicate i (V.bl true)) H') (Acc.start nD) (fun i H' _ ac => SqT.of (ac.s _ _ h1)) ?_ ?_
      · rintro j y H2o H2 hj ac ⟨rfl, hy⟩
        obtain ⟨hj2, rfl⟩ := nv_at hy
        have hb := full_bnd hp hj2
        refine ⟨rfl, iteT (B := Acc H D (List.replicate (j + 1) (V.bl true)) H2) ?_⟩
        refine ⟨_, rfl, _, rfl, _, _, rfl, rfl, _, _, _, rfl, Or.inl ⟨_, rfl, ?_⟩⟩
        rw [decide_eq_true (show (0 : Int) ≤ (p[j] : Nat) ∧ ((p[j] : Nat) : Int) ≤ (p.length : Int) - 1 by omega)]
        refine ⟨_, ac.a, by rw [List.length_replicate, sizeLine_eq]; omega, ?_⟩
        rw [show List.replicate (j + 1) (V.bl true) = List.replicate j (V.bl true) ++ [V.bl true] from List.replicate_succ']
        exact ac.push
      · intro H2 ac
        rw [nv_len] at ac
        refine ⟨D, List.replicate p.length true, rfl, SqL.of (by rw [ac.a, List.map_replicate]), ?_⟩
        rw [repl_all]
        refine ⟨true, rfl, iteT ?_⟩
        refine ⟨_, rfl, sort_sq (ha.same ac.s) fun ns' q2 perm srt n2 => ?_⟩
        have s2 := ac.s.trans (Same.up (o := .lst (ns'.map V.int)) n2)
        refine ⟨_, rfl, _, rfl, RgOk.of_le (by omega) (by omega) (by omega) (by omega), fun l nl => ?_⟩
        rw [full_srt hp perm srt] at nl ⊢
        rw [nv_rg]
        refine ⟨.list ((natB (List.range p.length)).map PyData.int), .list ((natB (List.range p.length)).map PyData.int), .lst (SqL.of ((Same.up nl) _ _ upd_same)) (ints_dp _ _ _), .lst (SqL.of upd_same) (ints_dp _ _ _), shaped_ints _, shaped_ints _, ?_⟩
        rw [refl_of (shaped_ints _)]
        rw [full_srt hp perm srt] at s2
        exact q _ (s2.trans (Same.up nl))
theorem b_full (T : Tx K mg A) : L2.Binds K A.d_is_full ["thing", "many"] [] := T.F_is_full.binds fun _ _ _ _ _ _ us hl => match us, hl with | [_, _], _ => rfl

theorem seq_isi {K : PySem.W.Frag} {H : Hp} {a : Addr} {xs : List V} (h : Sq H a xs) : ∃ c b1, TyX K H (.ref a) (.type c) ∧ PySem.W.kitOne K (.type c) (.type "list") = some b1 ∧ (b1 = false → PySem.W.kitOne K (.type c) (.type "tuple") = some true) := by
  rcases h with h | h
  · exact ⟨"list", true, .base (.lst h), kit_ty (by decide +kernel), fun z => by cases z⟩
  · exact ⟨"tuple", false, .base (.tup h), kit_ty (by decide +kernel), fun _ => kit_ty (by decide +kernel)⟩
def spCode : Sp := fun vs H Q _ => ∃ (a : Addr) (c : List Nat), vs = [.ref a] ∧ Sq H a (nv c) ∧ c.length ≤ 12 ∧ (∀ (i x : Nat), c[i]? = some x → x ≤ i) ∧ ∀ H', Same H H' → Q (.bl true) H'
theorem ok_code (T : Tx K mg A) : FnOk P w K mg base CX0 3 A.f_is_code A.d_is_code ["thing"] spCode := by
  refine T.F_is_code.ok sc_is_code (fun vs H Q E h => ?_) (fun cdv B outer s H vs Q E hr h => ?_)
  · obtain ⟨a, c, rfl, _⟩ := h
    rfl
  · obtain ⟨a, p, rfl, ha, h12, hc, q⟩ := h
    have nd := sc_is_code.nd
    obtain ⟨t12, hg⟩ := cst T.c_MOST_ITEMS
    refine ⟨_, (pss_cons (ps_if (PW.pt (pw_or (pt_not (pt_val (pe_callB call_isiT (by rfl) T.g_isinstance (by decide +kernel) (pa_cons (pv 0) (pa_cons (pe_tup (pa_cons (pe_bltn (v := .ty "list") (by rfl) T.g_list (by decide +kernel) rfl) (pa_cons (pe_bltn (v := .ty "tuple") (by rfl) T.g_tuple (by decide +kernel) rfl) pa_nil))) pa_nil))))) (pw_or1 (pt_cmpR op_gt (pe_callB call_len_seq (by rfl) T.g_len PySem.boot_len (pa_cons (pv 0) pa_nil)) (pe_glob (by rfl) hg (relI _ _)) (nomark _))))) (pss_one (ps_ret pe_bl)) pss_nil)
      (pss_one (ps_ret (pe_callB (cr_all rfl) (by rfl) T.g_all (by decide +kernel) (pa_cons (pe_lc (own := [("number", 1), ("at", 2)]) (g := gTup K 2 (gCons (gName 2) (gCons (gName 1) gNil))) (tt := tYes) rfl nd (pi_enS (by rfl) T.g_enumerate (pa_cons (pv 0) pa_nil)) (blkOk_by (own := [("number", 1), ("at", 2)]) (N := ["thing", "number", "at"]) (sc := (defScope s_is_code)) (by decide +kernel)) (fun _ _ _ _ _ => pg_tup rfl (pgs_cons (pg_name (i := 2) nd rfl (Or.inl rfl)) (pgs_cons (pg_name (i := 1) nd rfl (Or.inl rfl)) pgs_nil))) (fun _ _ _ _ _ => pts_nil) (fun _ _ _ _ _ => (pe_call (ok_ii T) (hr.mono (by decide)) (by rfl) T.m_is_integer_from T.F_is_integer_from.kp (b_ii T) .nil pass0 (pa_cons (pv 1) (pa_cons pe_int (pa_cons (pv 2) pa_nil)))))) pa_nil))))), ?_⟩
    refine ⟨_, rfl, by show 2 ≤ sizeLine; decide, fun tp htp => ?_⟩
    have s1 := Same.up (o := .tup [.ty "list", .ty "tuple"]) htp
    have ha1 := ha.same s1
    obtain ⟨c, b1, ty, k1, k2⟩ := seq_isi (K := K) ha1
    refine ⟨_, tp, _, .type c, [.type "list", .type "tuple"], true, rfl, upd_same, .cons (.ty _) (.cons (.ty _) .nil), ty, kitAny_cons k1 (fun z => kitAny_cons (k2 z) (fun z => by cases z) (fun _ => rfl)) (fun _ => rfl), true, rfl, ?_⟩
    refine iteF ⟨_, rfl, a, _, rfl, ha1.len, _, _, rfl, rfl, _, rfl, ?_⟩
    rw [decide_eq_false (show ¬ (12 : Int) < ((nv p).length : Int) by rw [nv_len]; omega)]
    refine iteF ?_
    generalize upd H tp (.tup [.ty "list", .ty "tuple"]) = G at s1 ha1
    rcases id ha1 with h1 | h1
    · refine ⟨_, rfl, a, _, rfl, Or.inl ⟨SqL.of h1, fun D nD => ?_⟩⟩
      refine lc_it (walk_enum (xs := nv p)) (fun i H' => Acc G D (List.replicate i (V.bl true)) H') (Acc.start nD) (fun i H' _ ac => SqL.of (ac.s _ _ h1)) ?_ ?_
      · rintro j y H2 H3 hj ac ⟨T', x, x2, rfl, hT, rfl, e1, e2⟩
        obtain ⟨hj2, rfl⟩ := nv_at e2
        cases e1
        have ac3 := ac.same (Same.up (o := .tup [V.int (j : Nat), V.int (p[j] : Nat)]) hT)
        refine ⟨_, _, rfl, SqT.of upd_same, rfl, _, _, rfl, _, _, rfl, rfl, rfl, iteT (B := Acc G D (List.replicate (j + 1) (V.bl true)) (upd H2 T' (.tup [V.int (j : Nat), V.int (p[j] : Nat)]))) ?_⟩
        refine ⟨_, rfl, _, rfl, _, _, _, rfl, Or.inl ⟨_, rfl, ?_⟩⟩
        have hb := hc j p[j] (List.getElem?_eq_getElem hj2)
        rw [decide_eq_true (show (0 : Int) ≤ (p[j] : Nat) ∧ ((p[j] : Nat) : Int) ≤ (j : Nat) by omega)]
        refine ⟨_, ac3.a, by rw [List.length_replicate, sizeLine_eq]; omega, ?_⟩
        rw [show List.replicate (j + 1) (V.bl true) = List.replicate j (V.bl true) ++ [V.bl true] from List.replicate_succ']
        exact ac3.push
      · intro H2 ac
        rw [nv_len] at ac
        refine ⟨D, List.replicate p.length true, rfl, SqL.of (by rw [ac.a, List.map_replicate]), ?_⟩
        rw [repl_all]
        exact q _ (s1.trans ac.s)
    · refine ⟨_, rfl, a, _, rfl, Or.inr ⟨SqT.of h1, fun D nD => ?_⟩⟩
      refine lc_it (walk_enumT (xs := nv p)) (fun i H' => Acc G D (List.replicate i (V.bl true)) H') (Acc.start nD) (fun i H' _ ac => SqT.of (ac.s _ _ h1)) ?_ ?_
      · rintro j y H2 H3 hj ac ⟨T', x, x2, rfl, hT, rfl, e1, e2⟩
        obtain ⟨hj2, rfl⟩ := nv_at e2
        cases e1
        have ac3 := ac.same (Same.up (o := .tup [V.int (j : Nat), V.int (p[j] : Nat)]) hT)
        refine ⟨_, _, rfl, SqT.of upd_same, rfl, _, _, rfl, _, _, rfl, rfl, rfl, iteT (B := Acc G D (List.replicate (j + 1) (V.bl true)) (upd H2 T' (.tup [V.int (j : Nat), V.int (p[j] : Nat)]))) ?_⟩
        refine ⟨_, rfl, _, rfl, _, _, _, rfl, Or.inl ⟨_, rfl, ?_⟩⟩
        have hb := hc j p[j] (List.getElem?_eq_getElem hj2)
        rw [decide_eq_true (show (0 : Int) ≤ (p[j] : Nat) ∧ ((p[j] : Nat) : Int) ≤ (j : Nat) by omega)]
        refine ⟨_, ac3.a, by rw [List.length_replicate, sizeLine_eq]; omega, ?_⟩
        rw [show List.replicate (j + 1) (V.bl true) = List.replicate j (V.bl true) ++ [V.bl true] from List.replicate_succ']
        exact ac3.push
      · intro H2 ac
        rw [nv_len] at ac
        refine ⟨D, List.replicate p.length true, rfl, SqL.of (by rw [ac.a, List.map_replicate]), ?_⟩
        rw [repl_all]
        exact q _ (s1.trans ac.s)
theorem b_code (T : Tx K mg A) : L2.Binds K A.d_is_code ["thing"] [] := T.F_is_code.binds fun _ _ _ _ _ _ us hl => match us, hl with | [_], _ => rfl
theorem pickI_len (l : List Int) (b : Int → Bool) : (l.filterMap fun z => if b z = true then some (V.int z) else none).length = (l.filter b).length := by
  induction l with
  | nil => rfl
  | cons a l ih =>
    by_cases h : b a = true
    · rw [List.filterMap_cons, if_pos h, List.filter_cons_of_pos h, List.length_cons, List.length_cons, ih]
    · rw [List.filterMap_cons, if_neg h, List.filter_cons_of_neg h, ih]
theorem more_len (p : List Nat) (x : Nat) : ((natB p).filterMap fun z => if decide ((x : Int) < z) = true then some (V.int z) else none).length = (p.filter fun y => decide (x < y)).length := by
  rw [pickI_len]
  unfold natB
  rw [List.filter_map, List.length_map]
  congr 1
  refine List.filter_congr fun y _ => ?_
  show decide ((x : Int) < Int.ofNat y) = decide (x < y)
  exact decide_eq_decide.mpr Int.ofNat_lt
theorem code_step {p : List Nat} {j : Nat} (h : j < p.length) : nv ((codeL p).take (j + 1)) = nv ((codeL p).take j) ++ [V.int (((p.take j).filter fun y => decide (p[j] < y)).length : Nat)] := by
  have hj : j < (codeL p).length := by rw [codeL_len]; exact h
  rw [← List.take_append_getElem hj, codeL_at h, getD_in h]
  unfold nv natB
  rw [List.map_append, List.map_append]
  rfl
def spOc : Sp := fun vs H Q _ => ∃ (a : Addr) (p : List Nat), vs = [.ref a] ∧ Sq H a (nv p) ∧ p.length ≤ 12 ∧ p.Perm (List.range p.length) ∧
  ∀ (H' : Hp) (t : Addr), Same H H' → H' t = some (.tup (nv (codeL p))) → Q (.ref t) H'
theorem ok_oc (T : Tx K mg A) : FnOk P w K mg base CX0 4 A.f_order_code A.d_order_code ["order"] spOc := by
  refine T.F_order_code.ok sc_order_code (fun vs H Q E h => ?_) (fun cdv B outer s H vs Q E hr h => ?_)
  · obtain ⟨a, c, rfl, _⟩ := h
    rfl
  · obtain ⟨a, p, rfl, ha, h12, hp, q⟩ := h
    have nd := sc_order_code.nd
    obtain ⟨t12, hg⟩ := cst T.c_MOST_ITEMS
    refine ⟨_, PSs.nox (pss_cons (ps_if (PW.pt (pw_or (pt_not (pt_val (pe_callB call_isiT (by rfl) T.g_isinstance (by decide +kernel) (pa_cons (pv 0) (pa_cons (pe_tup (pa_cons (pe_bltn (v := .ty "list") (by rfl) T.g_list (by decide +kernel) rfl) (pa_cons (pe_bltn (v := .ty "tuple") (by rfl) T.g_tuple (by decide +kernel) rfl) pa_nil))) pa_nil))))) (pw_or (pt_cmpR op_gt (pe_callB call_len_seq (by rfl) T.g_len PySem.boot_len (pa_cons (pv 0) pa_nil)) (pe_glob (by rfl) hg (relI _ _)) (nomark _)) (pw_or1 (pt_not (pt_val (pe_call (ok_full T) (hr.mono (by decide)) (by rfl) T.m_is_full T.F_is_full.kp (b_full T) .nil pass0 (pa_cons (pv 0) (pa_cons (pe_callB call_len_seq (by rfl) T.g_len PySem.boot_len (pa_cons (pv 0) pa_nil)) pa_nil))))))))) (pss_one ps_never) pss_nil)
      (pss_one (ps_ret (pe_callTy call_tuple_of (by rfl) T.g_tuple (by decide +kernel) (pa_cons (pe_lc (own := [("at", 2), ("item", 3)]) (g := gTup K 2 (gCons (gName 2) (gCons (gName 3) gNil))) (tt := tYes) rfl nd (pi_enS (by rfl) T.g_enumerate (pa_cons (pv 0) pa_nil)) (blkOk_by (own := [("at", 2), ("item", 3)]) (N := ["order", "before", "at", "item"]) (sc := (defScope s_order_code)) (by decide +kernel)) (fun _ _ _ _ _ => pg_tup rfl (pgs_cons (pg_name (i := 2) nd rfl (Or.inl rfl)) (pgs_cons (pg_name (i := 3) nd rfl (Or.inr rfl)) pgs_nil))) (fun _ _ _ _ _ => pts_nil) (fun _ _ _ _ _ => (pe_callB (r := rLn K) call_len_seq (by rfl) T.g_len PySem.boot_len (pa_cons (pe_lc (own := [("before", 1)]) (wi := wInn K) (g := gName 1) rfl nd (pi_or (pi_list (pe_slice sl_list (pv 0) po_none (po_some (pv 2)))) (pi_tup (pe_slice sl_tup (pv 0) po_none (po_some (pv 2))))) (blkOk_by (own := [("before", 1)]) (N := ["order", "before", "at", "item"]) (sc := (relS (outSc (defBody s_order_code) 1) (defScope s_order_code))) (by decide +kernel)) (fun _ _ _ _ _ => pg_name (i := 1) nd rfl (Or.inl rfl)) (fun _ _ _ _ _ => pts_one (pt_cmpR op_gt (pv 1) (pv 3) (nomark _))) (fun _ _ _ _ _ => (pv 1))) pa_nil)))) pa_nil))))), ?_⟩
    refine ⟨_, rfl, by show 2 ≤ sizeLine; decide, fun tp htp => ?_⟩
    have s1 := Same.up (o := .tup [.ty "list", .ty "tuple"]) htp
    have ha1 := ha.same s1
    obtain ⟨c, b1, ty, k1, k2⟩ := seq_isi (K := K) ha1
    refine ⟨_, tp, _, .type c, [.type "list", .type "tuple"], true, rfl, upd_same, .cons (.ty _) (.cons (.ty _) .nil), ty, kitAny_cons k1 (fun z => kitAny_cons (k2 z) (fun z => by cases z) (fun _ => rfl)) (fun _ => rfl), true, rfl, ?_⟩
    refine iteF ⟨_, rfl, a, _, rfl, ha1.len, _, _, rfl, rfl, _, rfl, ?_⟩
    rw [decide_eq_false (show ¬ (12 : Int) < ((nv p).length : Int) by rw [nv_len]; omega)]
    refine iteF ?_
    refine ⟨_, rfl, _, rfl, a, _, rfl, ha1.len, a, p, by rw [nv_len]; rfl, ha1, h12, hp, fun H1 s2 => ?_⟩
    refine ⟨_, rfl, iteF ?_⟩
    have ha2 := ha1.same s2
    have s3 := s1.trans s2
    rcases id ha2 with h1 | h1
    · refine ⟨_, rfl, a, _, rfl, Or.inl ⟨SqL.of h1, fun D nD => ?_⟩⟩
      refine lc_it (walk_enum (xs := nv p)) (fun i H' => Acc H1 D (nv ((codeL p).take i)) H') (Acc.start nD) (fun i H' _ ac => SqL.of (ac.s _ _ h1)) ?_ ?_
      · rintro j y H2 H3 hj ac ⟨T', x, x2, rfl, hT, rfl, e1, e2⟩
        obtain ⟨hj2, rfl⟩ := nv_at e2
        cases e1
        have ac3 := ac.same (Same.up (o := .tup [V.int (j : Nat), V.int (p[j] : Nat)]) hT)
        refine ⟨_, _, rfl, SqT.of upd_same, rfl, _, _, rfl, _, _, rfl, rfl, rfl, iteT (B := Acc H1 D (nv ((codeL p).take (j + 1))) (upd H2 T' (.tup [V.int (j : Nat), V.int (p[j] : Nat)]))) ?_⟩
        generalize upd H2 T' (.tup [V.int (j : Nat), V.int (p[j] : Nat)]) = G3 at ac3
        have h3 := ac3.s _ _ h1
        refine Or.inl ⟨_, rfl, _, rfl, _, rfl, a, _, rfl, SqL.of h3, fun p2 hp2 => ?_⟩
        rw [nv_cut _ _ (by omega)]
        have s4 := Same.up (o := .lst (nv (p.take j))) hp2
        have hp4 : upd G3 p2 (.lst (nv (p.take j))) p2 = some (.lst (nv (p.take j))) := upd_same
        generalize upd G3 p2 (.lst (nv (p.take j))) = G4 at s4 hp4
        refine ⟨p2, rfl, ⟨_, SqL.of hp4⟩, fun D2 nD2 => ?_⟩
        have htl : (natB (p.take j)).length ≤ 12 := by rw [natB_len, List.length_take]; omega
        refine lc_it (walk_list (xs := nv (p.take j))) (PickI G4 D2 (natB (p.take j)) fun z => if decide (((p[j] : Nat) : Int) < z) = true then some (V.int z) else none) (pick_start nD2) (fun i H' _ h => SqL.of (h.s _ _ hp4)) ?_ ?_
        · rintro i x H5 H6 hi pk ⟨rfl, ex⟩
          obtain ⟨hi2, rfl⟩ := map_at ex
          refine ⟨rfl, _, rfl, _, rfl, _, _, rfl, rfl, _, rfl, ?_⟩
          by_cases hf : ((p[j] : Nat) : Int) < (natB (p.take j))[i]
          · rw [decide_eq_true hf]
            exact iteT ⟨_, rfl, pick_yes hi2 (by omega) (by rw [decide_eq_true hf]; rfl) (Same.refl _) pk⟩
          · rw [decide_eq_false hf]
            exact iteF (pick_no hi2 (by rw [decide_eq_false hf]; rfl) (Same.refl _) pk)
        · intro H5 pk
          have aL := pick_end (by rw [nv_len, natB_len]) pk
          refine ⟨D2, _, rfl, .inl (SqL.of aL.a), ?_⟩
          rw [more_len]
          have ac5 := (ac3.same s4).same aL.s
          refine ⟨_, ac5.a, by rw [nv_len, List.length_take, codeL_len, sizeLine_eq]; omega, ?_⟩
          rw [code_step hj2]
          exact ac5.push
      · intro H2 ac
        rw [nv_len, show (codeL p).take p.length = codeL p by rw [← codeL_len, List.take_length]] at ac
        exact ⟨D, _, rfl, .inl ⟨SqL.of ac.a, fun t nt => q _ t ((s3.trans ac.s).trans (Same.up nt)) upd_same⟩⟩
    · refine ⟨_, rfl, a, _, rfl, Or.inr ⟨SqT.of h1, fun D nD => ?_⟩⟩
      refine lc_it (walk_enumT (xs := nv p)) (fun i H' => Acc H1 D (nv ((codeL p).take i)) H') (Acc.start nD) (fun i H' _ ac => SqT.of (ac.s _ _ h1)) ?_ ?_
      · rintro j y H2 H3 hj ac ⟨T', x, x2, rfl, hT, rfl, e1, e2⟩
        obtain ⟨hj2, rfl⟩ := nv_at e2
        cases e1
        have ac3 := ac.same (Same.up (o := .tup [V.int (j : Nat), V.int (p[j] : Nat)]) hT)
        refine ⟨_, _, rfl, SqT.of upd_same, rfl, _, _, rfl, _, _, rfl, rfl, rfl, iteT (B := Acc H1 D (nv ((codeL p).take (j + 1))) (upd H2 T' (.tup [V.int (j : Nat), V.int (p[j] : Nat)]))) ?_⟩
        generalize upd H2 T' (.tup [V.int (j : Nat), V.int (p[j] : Nat)]) = G3 at ac3
        have h3 := ac3.s _ _ h1
        refine Or.inr ⟨_, rfl, _, rfl, _, rfl, a, _, rfl, SqT.of h3, (fun z => by have z2 := z.2; rw [HT.sIx_nat, nv_len] at z2; omega), fun p2 hp2 => ?_⟩
        rw [nv_cut _ _ (by omega)]
        have s4 := Same.up (o := .tup (nv (p.take j))) hp2
        have hp4 : upd G3 p2 (.tup (nv (p.take j))) p2 = some (.tup (nv (p.take j))) := upd_same
        generalize upd G3 p2 (.tup (nv (p.take j))) = G4 at s4 hp4
        refine ⟨p2, rfl, ⟨_, SqT.of hp4⟩, fun D2 nD2 => ?_⟩
        have htl : (natB (p.take j)).length ≤ 12 := by rw [natB_len, List.length_take]; omega
        refine lc_it (walk_tup (xs := nv (p.take j))) (PickI G4 D2 (natB (p.take j)) fun z => if decide (((p[j] : Nat) : Int) < z) = true then some (V.int z) else none) (pick_start nD2) (fun i H' _ h => SqT.of (h.s _ _ hp4)) ?_ ?_
        · rintro i x H5 H6 hi pk ⟨rfl, ex⟩
          obtain ⟨hi2, rfl⟩ := map_at ex
          refine ⟨rfl, _, rfl, _, rfl, _, _, rfl, rfl, _, rfl, ?_⟩
          by_cases hf : ((p[j] : Nat) : Int) < (natB (p.take j))[i]
          · rw [decide_eq_true hf]
            exact iteT ⟨_, rfl, pick_yes hi2 (by omega) (by rw [decide_eq_true hf]; rfl) (Same.refl _) pk⟩
          · rw [decide_eq_false hf]
            exact iteF (pick_no hi2 (by rw [decide_eq_false hf]; rfl) (Same.refl _) pk)
        · intro H5 pk
          have aL := pick_end (by rw [nv_len, natB_len]) pk
          refine ⟨D2, _, rfl, .inl (SqL.of aL.a), ?_⟩
          rw [more_len]
          have ac5 := (ac3.same s4).same aL.s
          refine ⟨_, ac5.a, by rw [nv_len, List.length_take, codeL_len, sizeLine_eq]; omega, ?_⟩
          rw [code_step hj2]
          exact ac5.push
      · intro H2 ac
        rw [nv_len, show (codeL p).take p.length = codeL p by rw [← codeL_len, List.take_length]] at ac
        exact ⟨D, _, rfl, .inl ⟨SqL.of ac.a, fun t nt => q _ t ((s3.trans ac.s).trans (Same.up nt)) upd_same⟩⟩
theorem b_oc (T : Tx K mg A) : L2.Binds K A.d_order_code ["order"] [] := T.F_order_code.binds fun _ _ _ _ _ _ us hl => match us, hl with | [_], _ => rfl

end
end Tw

set_option Elab.async false
set_option linter.all false
set_option maxRecDepth 100000
set_option maxHeartbeats 2000000
namespace Tw
open PySem PySem.Spec PyProof.Rows L2
section
variable {P : Program} {w : World} {K : PySem.W.Frag} {mg : Str → Option Value} {base : Heap} {A : Ad}
theorem eraN : ∀ (l : List Nat) (i : Nat), (nv l).eraseIdx i = nv (l.eraseIdx i)
  | [], _ => rfl
  | _ :: _, 0 => rfl
  | a :: l, i + 1 => congrArg (V.int (Int.ofNat a) :: ·) (eraN l i)
theorem revN (l : List Nat) : (nv l).reverse = nv l.reverse := by
  unfold nv natB
  rw [List.map_reverse, List.map_reverse]
theorem appN (l : List Nat) (x : Nat) : nv l ++ [V.int (x : Nat)] = nv (l ++ [x]) := by
  unfold nv natB
  rw [List.map_append, List.map_append]
  rfl
def spOb : Sp := fun vs H Q _ => ∃ (a : Addr) (c : List Nat), vs = [.ref a] ∧ Sq H a (nv c) ∧ c.length ≤ 12 ∧ (∀ (i x : Nat), c[i]? = some x → x ≤ i) ∧
  ∀ (H' : Hp) (t : Addr), Same H H' → H' t = some (.tup (nv (orderL c))) → Q (.ref t) H'
theorem ok_ob (T : Tx K mg A) : FnOk P w K mg base CX0 4 A.f_order_by A.d_order_by ["numbers"] spOb := by
  refine T.F_order_by.ok sc_order_by (fun vs H Q E h => ?_) (fun cdv B outer s H vs Q E hr h => ?_)
  · obtain ⟨a, c, rfl, _⟩ := h
    rfl
  · obtain ⟨a, c, rfl, ha, h12, hc, q⟩ := h
    have nd := sc_order_by.nd
    refine ⟨_, PSs.nox (pss_cons (ps_if (pt_not (pt_val (pe_call (ok_code T) (hr.mono (by decide)) (by rfl) T.m_is_code T.F_is_code.kp (b_code T) .nil pass0 (pa_cons (pv 0) pa_nil)))) (pss_one ps_never) pss_nil)
      (pss_cons (ps_set (i := 1) nd rfl (Or.inl rfl) (pe_listRg rfl (by rfl) T.g_list (prg_1 (by rfl) T.g_range (pe_callB call_len_seq (by rfl) T.g_len PySem.boot_len (pa_cons (pv 0) pa_nil)))))
      (pss_cons (ps_set (i := 2) nd rfl (Or.inl rfl) (pe_lst pa_nil))
      (C8.pss_cut (ps_for PassesOwn.never rfl (RT.pi_revA (by rfl) T.g_reversed (pe_callTy call_list_of (by rfl) T.g_list (by decide +kernel) (pa_cons (pv 0) pa_nil))) (pg_name (i := 3) nd rfl (Or.inl rfl)) (pss_one (ps_expr (pe_bm PySem.F.plainAttrs_list PySem.F.slot_list_append PySem.F.type_list_append mt_append (pv 2) (pa_cons (pe_bm PySem.F.plainAttrs_list PySem.F.slot_list_pop PySem.F.type_list_pop mt_popAt (pv 1) (pa_cons (pe_op op_sub (pe_op op_sub (pe_callB call_len_seq (by rfl) T.g_len PySem.boot_len (pa_cons (pv 1) pa_nil)) pe_int) (pv 3)) pa_nil)) pa_nil)))))
      (pss_one (ps_ret (pe_callTy call_tuple_of (by rfl) T.g_tuple (by decide +kernel) (pa_cons (pe_revL (pv 2)) pa_nil)))))))), ?_⟩
    refine ⟨_, rfl, a, c, rfl, ha, h12, hc, fun H1 s1 => ⟨_, rfl, iteF ?_⟩⟩
    have ha1 := ha.same s1
    refine ⟨_, rfl, a, _, rfl, ha1.len, _, rfl, ?_⟩
    rw [nv_len]
    refine ⟨RgOk.of_le (by omega) (by omega) (by omega) (by omega), fun L nL => ?_⟩
    rw [nv_rg]
    have s2 := Same.up (o := .lst (nv (List.range c.length))) nL
    refine ⟨Nat.zero_le _, fun O nO => ?_⟩
    have hLO : O ≠ L := fun z => by
      rw [z, upd_same] at nO
      cases nO
    have s3 := s2.trans (Same.up (o := .lst []) nO)
    have nO1 : H1 O = none := s2.free nO
    have eL0 : upd (upd H1 L (.lst (nv (List.range c.length)))) O (.lst []) L = some (.lst (nv (List.range c.length))) := by
      rw [upd_ne hLO.symm, upd_same]
    have eO0 : upd (upd H1 L (.lst (nv (List.range c.length)))) O (.lst []) O = some (.lst []) := upd_same
    generalize upd (upd H1 L (.lst (nv (List.range c.length)))) O (.lst []) = G at s3 eL0 eO0
    refine ⟨fun σ' H' => ∃ x3 : Option V, σ' = [some (.ref a), some (.ref L), some (.ref O), x3] ∧ Same H1 H' ∧ H' O = some (.lst (nv (decL (List.range c.length) c.reverse))), ?_, ?_⟩
    · refine ⟨_, rfl, a, _, rfl, (ha1.same s3).len, fun M nM => ?_⟩
      have s4 := Same.up (o := .lst (nv c)) nM
      have nM1 : H1 M = none := s3.free nM
      have hML : M ≠ L := fun z => by rw [z, eL0] at nM; cases nM
      have hMO : M ≠ O := fun z => by rw [z, eO0] at nM; cases nM
      refine ⟨M, _, rfl, .inl ⟨SqL.of upd_same, RT.for_Itv (fun i σ' H' => (∃ x3 : Option V, σ' = [some (.ref a), some (.ref L), some (.ref O), x3]) ∧ Same H1 H' ∧ H' M = some (.lst (nv c)) ∧ ∃ left out : List Nat, H' L = some (.lst (nv left)) ∧ H' O = some (.lst (nv out)) ∧
          decL (List.range c.length) c.reverse = out ++ decL left (c.reverse.drop i) ∧ left.length = c.length - i ∧ out.length = i) ⟨⟨none, rfl⟩, s3.trans s4, upd_same, List.range c.length, [], s4 _ _ eL0, s4 _ _ eO0, rfl, by rw [List.length_range]; rfl, rfl⟩ (fun i σ' H' ⟨_, _, e, _⟩ => SqL.of e) ?_ ?_⟩⟩
      · rintro i x σ' H5 hi ex ⟨⟨x3, rfl⟩, s5, eM, left, out, eL, eO, ed, hll, hol⟩
        rw [nv_len] at hi ex
        obtain ⟨hx, rfl⟩ := nv_at ex
        have hcx := hc _ _ (List.getElem?_eq_getElem hx)
        have hdrop : c.reverse.drop i = c[c.length - 1 - i] :: c.reverse.drop (i + 1) := by
          rw [List.drop_eq_getElem_cons (by rw [List.length_reverse]; exact hi), List.getElem_reverse]
        have hidx : left.length - 1 - c[c.length - 1 - i] < left.length := by omega
        refine ⟨_, rfl, .inl ⟨rfl, _, SqL.of eO⟩, _, rfl, .inl ⟨rfl, _, SqL.of eL⟩, _, rfl, L, _, rfl, .inl (SqL.of eL), _, _, rfl, rfl, _, rfl, _, _, rfl, rfl, ?_⟩
        rw [nv_len]
        refine ⟨L, _, _, left.length - 1 - c[c.length - 1 - i], V.int (left[left.length - 1 - c[c.length - 1 - i]] : Nat), rfl, rfl, eL, by omega, by omega, ?_, nv_get hidx, ?_⟩
        · rw [show ((left.length : Nat) : Int) - 1 - (c[c.length - 1 - i] : Nat) = ((left.length - 1 - c[c.length - 1 - i] : Nat) : Int) by omega]
          unfold seqIndex?
          rw [nv_len]
          simp
          omega
        · have nLs : ∀ (zs zs2 : List V), Same H1 (upd (upd H5 L (.lst zs)) O (.lst zs2)) := fun zs zs2 b o e => by
            rw [upd_ne (ne_of_none e nO1), upd_ne (ne_of_none e nL)]
            exact s5 _ _ e
          refine ⟨O, _, _, rfl, rfl, by rw [upd_ne hLO]; exact eO, by rw [nv_len, sizeLine_eq]; omega, ⟨_, rfl⟩, nLs _ _, ?_, left.eraseIdx (left.length - 1 - c[c.length - 1 - i]), out ++ [left[left.length - 1 - c[c.length - 1 - i]]], ?_, ?_, ?_, ?_, ?_⟩
          · rw [upd_ne hMO, upd_ne hML]
            exact eM
          · rw [upd_ne hLO.symm, upd_same, eraN]
          · rw [upd_same, appN]
          · rw [ed, hdrop]
            show out ++ (left.getD (left.length - 1 - c[c.length - 1 - i]) 0 :: decL (left.eraseIdx (left.length - 1 - c[c.length - 1 - i])) _) = _
            rw [getD_in hidx, List.append_assoc]
            rfl
          · rw [List.length_eraseIdx_of_lt hidx]
            omega
          · rw [List.length_append, hol]
            rfl
      · rintro σ' H5 ⟨⟨x3, rfl⟩, s5, eM, left, out, eL, eO, ed, hll, hol⟩
        rw [nv_len, show c.reverse.drop c.length = [] by rw [← List.length_reverse, List.drop_length]] at ed
        refine ⟨x3, rfl, s5, ?_⟩
        rw [ed]
        show H5 O = some (HO.lst (nv (out ++ [])))
        rw [List.append_nil]
        exact eO
    · rintro σ' H5 ⟨x3, rfl, s5, eO⟩
      refine ⟨_, rfl, O, _, rfl, SqL.of eO, fun R nR => ⟨R, _, rfl, .inl ⟨SqL.of upd_same, fun t nt => q _ t (s1.trans (s5.trans ((Same.up nR).trans (Same.up nt)))) ?_⟩⟩⟩
      rw [upd_same, revN]
      rfl
theorem b_ob (T : Tx K mg A) : L2.Binds K A.d_order_by ["numbers"] [] := T.F_order_by.binds fun _ _ _ _ _ _ us hl => match us, hl with | [_], _ => rfl

end
end Tw

set_option Elab.async false
set_option linter.all false
set_option maxRecDepth 100000
set_option maxHeartbeats 2000000
namespace Tw
open PySem PySem.Spec PyProof.Rows L2
section
variable {P : Program} {w : World} {K : PySem.W.Frag} {mg : Str → Option Value} {base : Heap} {A : Ad}
/-! the law's own defs -/
theorem inV_nv (m : Nat) : ∀ p : List Nat, inV (V.int (m : Nat)) (nv p) = decide (m ∈ p)
  | [] => by simp [inV, nv, natB]
  | a :: p => by
    have ih := inV_nv m p
    unfold inV at ih ⊢
    show (eqV (V.int (Int.ofNat a)) (V.int (m : Nat)) || (nv p).any fun y => eqV y (V.int (m : Nat))) = _
    rw [ih]
    by_cases h : m = a
    · subst h
      rw [show eqV (V.int (Int.ofNat m)) (V.int (m : Nat)) = true from decide_eq_true rfl, Bool.true_or, decide_eq_true List.mem_cons_self]
    · rw [show eqV (V.int (Int.ofNat a)) (V.int (m : Nat)) = false from decide_eq_false (fun z => h (by have : (Int.ofNat a) = Int.ofNat m := z; exact (Int.ofNat.inj this).symm)), Bool.false_or]
      exact decide_eq_decide.mpr ⟨fun z => List.mem_cons_of_mem _ z, fun z => (List.mem_cons.mp z).resolve_left h⟩
theorem nv_flat : ∀ p : List Nat, (nv p).all flatV = true
  | [] => rfl
  | a :: p => by
    show (flatV (V.int (Int.ofNat a)) && (nv p).all flatV) = true
    rw [nv_flat p]
    rfl
/-- a tuple and one item more -/
theorem cat_el {K : PySem.W.Frag} {σ : L2.St} {G : Hp} {tt : Addr} {p : List Nat} {x : Nat} {Q : VK} (h4 : σ[4]? = some (some (.ref tt))) (h5 : σ[5]? = some (some (V.int (x : Nat)))) (et : G tt = some (.tup (nv p))) (hl : p.length ≤ 12)
    (fin : ∀ (c : Addr) (G2 : Hp), Same G G2 → G2 c = some (.tup (nv (p ++ [x]))) → Q (.ref c) G2) : tOp (rCatA K) (tVar 4) (tTup (tCons (tVar 5) tNil)) σ G Q := by
  refine ⟨_, h4, _, h5, by show 1 ≤ sizeLine; decide, fun u nu => ?_⟩
  have su := Same.up (o := .tup [V.int (x : Nat)]) nu
  refine ⟨tt, u, _, _, rfl, rfl, SqT.of (su _ _ et), SqT.of upd_same, Nat.le_of_lt (small1000 (by rw [nv_len, List.length_singleton]; omega)), fun hn => ?_, fun _ y => (nomatch y), fun hn _ c nc => ?_⟩
  · have e0 : p = [] := by
      have := nv_len p
      rw [hn] at this
      exact List.length_eq_zero_iff.mp this.symm
    refine fin u _ su ?_
    subst e0
    exact upd_same
  · rw [appN]
    exact fin c _ (su.trans (Same.up nc)) upd_same
abbrev NRows (H : Hp) (xs : List V) (ls : List (List Nat)) : Prop := RowsAt H xs (ls.map natB)
structure Gro (H1 : Hp) (D tt : Addr) (p : List Nat) (ls : List (List Nat)) (H : Hp) : Prop where
  ac : AccR H1 D (ls.map natB) H
  et : H tt = some (.tup (nv p))
theorem Gro.push {H1 H G : Hp} {D tt c : Addr} {p l : List Nat} {ls : List (List Nat)} (g : Gro H1 D tt p ls H) (s : Same H G) (ec : G c = some (.tup (nv l))) (hz : ls.length < sizeLine) :
    ∃ acc, G D = some (.lst acc) ∧ acc.length < sizeLine ∧ Gro H1 D tt p (ls ++ [l]) (upd G D (.lst (acc ++ [V.ref c]))) := by
  obtain ⟨acc, a1, a2, a3⟩ := (g.ac.same s).push (x := .ref c) (l := natB l) ⟨c, rfl, ec⟩ (by rw [List.length_map]; exact hz)
  refine ⟨acc, a1, a2, ?_, ?_⟩
  · rw [List.map_append]
    exact a3
  · rw [upd_ne (ne_of (s _ _ g.et) a1 (by intro y; cases y))]
    exact s _ _ g.et
theorem NRows.get {H : Hp} {xs : List V} {ls : List (List Nat)} {i : Nat} {x : V} (r : NRows H xs ls) (e : xs[i]? = some x) : ∃ (hi : i < ls.length) (t : Addr), x = .ref t ∧ H t = some (.tup (nv ls[i])) := by
  obtain ⟨hi, t, e1, e2⟩ := RowsAt.get r e
  rw [List.length_map] at hi
  rw [List.getElem_map] at e2
  exact ⟨hi, t, e1, e2⟩
theorem NRows.app {H : Hp} {xs ys : List V} {ls ms : List (List Nat)} (a : NRows H xs ls) (b : NRows H ys ms) : NRows H (xs ++ ys) (ls ++ ms) := by
  unfold NRows
  rw [List.map_append]
  exact RowsAt.app a b
theorem flat_le {f : List Nat → List (List Nat)} {c : Nat} : ∀ l : List (List Nat), (∀ a ∈ l, (f a).length ≤ c) → (l.flatMap f).length ≤ l.length * c
  | [], _ => by simp
  | a :: l, h => by
    have h1 := h a List.mem_cons_self
    have h2 := flat_le l fun b hb => h b (List.mem_cons_of_mem _ hb)
    rw [List.flatMap_cons, List.length_append, List.length_cons, Nat.succ_mul]
    omega
theorem ords_el : ∀ (n t : Nat), ∀ p ∈ ordsL n t, p.length = t
  | _, 0, p, hp => by rw [List.mem_singleton.mp hp]; rfl
  | n, t + 1, p, hp => by
    obtain ⟨q, hq, h2⟩ := List.mem_flatMap.mp hp
    obtain ⟨x, _, rfl⟩ := List.mem_map.mp h2
    rw [List.length_append, ords_el n t q hq]
    rfl
theorem more_le (n : Nat) (p : List Nat) (b : Nat → Bool) : (((List.range n).filter b).map fun x => p ++ [x]).length ≤ n := by
  rw [List.length_map]
  exact Nat.le_trans (List.length_filter_le _ _) (by rw [List.length_range]; exact Nat.le_refl _)
def spLo : Sp := fun vs H Q _ => ∃ n : Nat, vs = [.int n] ∧ n ≤ 5 ∧ ∀ (H' : Hp) (q : Addr) (xs : List V), Same H H' → H q = none → H' q = some (.lst xs) → NRows H' xs (ordsL n n) → Q (.ref q) H'
theorem ok_lo (T : Tx K mg A) : FnOk P w K mg base CX0 2 A.f__law_orders A.d__law_orders ["many"] spLo := by
  refine T.F__law_orders.ok sc__law_orders (fun vs H Q E h => ?_) (fun cdv B outer s H vs Q E hr h => ?_)
  · obtain ⟨n, rfl, _⟩ := h
    rfl
  · obtain ⟨n, rfl, hn, q⟩ := h
    have nd := sc__law_orders.nd
    refine ⟨_, (pss_cons (ps_set (i := 1) nd rfl (Or.inl rfl) (pe_lst (pa_cons (pe_tup pa_nil) pa_nil)))
      (C8.pss_cut (ps_for PassesOwn.never rfl (pi_range1 rfl T.g_range (pa_cons (pv 0) pa_nil)) (pg_name (i := 2) nd rfl (Or.inl rfl)) (pss_cons (ps_set (i := 3) nd rfl (Or.inl rfl) (pe_lst pa_nil))
      (C8.pss_cut (ps_for PassesOwn.never rfl (pi_list (pv 1)) (pg_name (i := 4) nd rfl (Or.inr rfl)) (pss_one (ps_set (i := 3) nd rfl (Or.inl rfl) (pe_op op_cat (pv 3) (pe_lc (own := [("item", 5)]) (g := gName 5) rfl nd (pi_range1 rfl T.g_range (pa_cons (pv 0) pa_nil)) (blkOk_by (own := [("item", 5)]) (N := ["many", "found", "turn", "late", "one", "item"]) (sc := (defScope s__law_orders)) (by decide +kernel)) (fun _ _ _ _ _ => pg_name (i := 5) nd rfl (Or.inl rfl)) (fun _ _ _ _ _ => pts_one (pt_cmpR (r := L2.rIn K true) op_notIn_seq (pv 5) (pv 4) (by rfl))) (fun _ _ _ _ _ => (pe_op (r := rCatA K) op_catA (pv 4) (pe_tup (pa_cons (pv 5) pa_nil)))))))))
      (pss_one (ps_set (i := 1) nd rfl (Or.inl rfl) (pv 3))))))
      (pss_one (ps_ret (pv 1))))), ?_⟩
    refine ⟨Nat.zero_le _, fun e ne => ⟨by show 1 ≤ sizeLine; decide, fun D nD => ?_⟩⟩
    have se := Same.up (o := .tup []) ne
    have s0 : Same H (upd (upd H e (.tup [])) D (.lst [V.ref e])) := se.trans (Same.up nD)
    have eD : upd (upd H e (.tup [])) D (.lst [V.ref e]) D = some (.lst [V.ref e]) := upd_same
    have rD : NRows (upd (upd H e (.tup [])) D (.lst [V.ref e])) [V.ref e] (ordsL n 0) := .cons ⟨e, rfl, (Same.up nD) _ _ upd_same⟩ .nil
    have nD0 := se.free nD
    generalize upd (upd H e (.tup [])) D (.lst [V.ref e]) = G at s0 eD rD
    refine ⟨fun σ' H' => ∃ (x2 x3 x4 : Option V) (q1 : Addr) (xs : List V), σ' = [some (.int n), some (.ref q1), x2, x3, x4, none] ∧ Same H H' ∧ H q1 = none ∧ H' q1 = some (.lst xs) ∧ NRows H' xs (ordsL n n), ?_, ?_⟩
    · refine ⟨_, rfl, _, rfl, by omega, by omega, ?_⟩
      rw [Int.toNat_natCast]
      refine for_it (walk_range (lo := 0) (n := n)) (fun i σ' H' => ∃ (x2 x3 x4 : Option V) (q1 : Addr) (xs : List V), σ' = [some (.int n), some (.ref q1), x2, x3, x4, none] ∧ Same H H' ∧ H q1 = none ∧ H' q1 = some (.lst xs) ∧ NRows H' xs (ordsL n i))
        ⟨none, none, none, D, _, rfl, s0, nD0, eD, rD⟩ (fun _ _ _ _ _ => trivial) ?_ ?_
      · rintro i x σ' H2 H3 hi ⟨x2, x3, x4, q1, xs, rfl, s2, n1, e1, r1⟩ ⟨rfl, ex⟩
        have hol := ords_len n hn i (by omega)
        refine ⟨Nat.zero_le _, fun D3 n3 => ?_⟩
        have s3 := Same.up (o := .lst []) n3
        have ms : ∀ j, ((((ordsL n i).take j).flatMap fun p => ((List.range n).filter fun x => decide (x ∉ p)).map fun x => p ++ [x])).length ≤ 600 := fun j => by
          have := flat_le (f := fun p => ((List.range n).filter fun x => decide (x ∉ p)).map fun x => p ++ [x]) (c := 5) ((ordsL n i).take j) (fun p _ => Nat.le_trans (more_le n p _) hn)
          have h2 : ((ordsL n i).take j).length ≤ 120 := by rw [List.length_take]; omega
          omega
        refine ⟨fun σ' H' => ∃ (x4 : Option V) (q3 : Addr) (ys : List V), σ' = [some (.int n), some (.ref q1), some x, some (.ref q3), x4, none] ∧ Same H H' ∧ H q3 = none ∧ H' q3 = some (.lst ys) ∧ NRows H' ys (ordsL n (i + 1)), ?_, ?_⟩
        · refine ⟨_, rfl, q1, rfl, ⟨_, SqL.of (s3 _ _ e1)⟩, ?_⟩
          refine for_it (walk_list (xs := xs)) (fun j σ' H' => ∃ (x4 : Option V) (q3 : Addr) (ys : List V), σ' = [some (.int n), some (.ref q1), some x, some (.ref q3), x4, none] ∧ Same H3 H' ∧ H3 q3 = none ∧ H' q3 = some (.lst ys) ∧ NRows H' ys (((ordsL n i).take j).flatMap fun p => ((List.range n).filter fun x => decide (x ∉ p)).map fun x => p ++ [x]))
            ⟨x4, D3, [], rfl, s3, n3, upd_same, .nil⟩ (fun j σ' H' _ ⟨_, _, _, _, s, _⟩ => SqL.of (s _ _ e1)) ?_ ?_
          · rintro j y σ' H4 H5 hj ⟨y4, q3, ys, rfl, s4, n4, e4, r4⟩ ⟨rfl, hy⟩
            obtain ⟨hj2, t, rfl, et⟩ := r1.get hy
            have hpl := ords_el n i _ (List.getElem_mem hj2)
            have et4 := s4 _ _ et
            refine ⟨_, rfl, _, rfl, _, rfl, by omega, by omega, fun D4 nD4 => ?_⟩
            rw [Int.toNat_natCast]
            refine lc_it (walk_range (lo := 0) (n := n)) (fun m H' => Gro H5 D4 t (ordsL n i)[j] (((List.range m).filter fun x => decide (x ∉ (ordsL n i)[j])).map fun x => (ordsL n i)[j] ++ [x]) H') ⟨AccR.start nD4, (Same.up nD4) _ _ et4⟩ (fun _ _ _ _ => trivial) ?_ ?_
            · rintro m z H6 H7 hm gr ⟨rfl, ez⟩
              obtain rfl : z = V.int (m : Nat) := by
                rw [ez]
                show V.int (0 + (m : Int)) = _
                rw [Int.zero_add]
              refine ⟨rfl, _, rfl, _, rfl, t, _, rfl, .inr (SqT.of gr.et), rfl, nv_flat _, _, rfl, ?_⟩
              rw [if_pos rfl, inV_nv, List.range_succ, List.filter_append]
              by_cases hm2 : m ∈ (ordsL n i)[j]
              · rw [decide_eq_true hm2]
                refine iteF ?_
                rw [List.filter_cons_of_neg (by simpa using hm2), List.filter_nil, List.append_nil]
                exact gr
              · rw [decide_eq_false hm2]
                refine iteT ?_
                refine cat_el rfl rfl gr.et (by omega) fun c G2 sG ec => ?_
                rw [List.filter_cons_of_pos (by simpa using hm2), List.filter_nil, List.map_append]
                exact gr.push sG ec (small1000 (Nat.le_trans (more_le m _ _) (by omega)))
            · intro H6 gr
              obtain ⟨zs, ez, rz⟩ := gr.ac.a
              have s6 := gr.ac.s
              have e46 := s6 _ _ e4
              have hzl := Paired.length rz
              have hyl := Paired.length r4
              have e56 := s6 _ _ e4
              have hzl : zs.length ≤ n := by
                have := Paired.length rz
                rw [List.length_map] at this
                rw [this]
                exact more_le n _ _
              have hyl : ys.length ≤ 600 := by
                have := Paired.length r4
                rw [List.length_map] at this
                rw [this]
                exact ms j
              refine ⟨q3, D4, _, _, rfl, rfl, e56, ez, by rw [sizeLine_eq]; omega, fun L nL => ?_⟩
              have sL := s6.trans (Same.up (o := .lst (ys ++ zs)) nL)
              refine ⟨_, L, _, rfl, s4.trans sL, s4.free (s6.free nL), upd_same, ?_⟩
              rw [← List.take_append_getElem hj2, List.flatMap_append, List.flatMap_cons, List.flatMap_nil, List.append_nil]
              exact RowsAt.same (NRows.app (RowsAt.same r4 s6) rz) (Same.up nL)
          · rintro σ' H4 ⟨y4, q3, ys, rfl, s4, n4, e4, r4⟩
            refine ⟨y4, q3, ys, rfl, s2.trans s4, s2.free n4, e4, ?_⟩
            have hxl := Paired.length r1
            rw [List.length_map] at hxl
            rw [hxl, List.take_length] at r4
            exact r4
        · rintro σ' H4 ⟨y4, q3, ys, rfl, s4, n4, e4, r4⟩
          exact ⟨_, rfl, _, _, _, _, _, rfl, s4, n4, e4, r4⟩
      · rintro σ' H2 ⟨x2, x3, x4, q1, xs, rfl, s2, n1, e1, r1⟩
        exact ⟨x2, x3, x4, q1, xs, rfl, s2, n1, e1, r1⟩
    · rintro σ' H2 ⟨x2, x3, x4, q1, xs, rfl, s2, n1, e1, r1⟩
      exact ⟨_, rfl, q _ _ _ s2 n1 e1 r1⟩
theorem b_lo (T : Tx K mg A) : L2.Binds K A.d__law_orders ["many"] [] := T.F__law_orders.binds fun _ _ _ _ _ _ us hl => match us, hl with | [_], _ => rfl
def spLk : Sp := fun vs H Q _ => ∃ n : Nat, vs = [.int n] ∧ n ≤ 5 ∧ ∀ (H' : Hp) (q : Addr) (xs : List V), Same H H' → H q = none → H' q = some (.lst xs) → NRows H' xs (codsL n) → Q (.ref q) H'
theorem ok_lk (T : Tx K mg A) : FnOk P w K mg base CX0 2 A.f__law_codes A.d__law_codes ["many"] spLk := by
  refine T.F__law_codes.ok sc__law_codes (fun vs H Q E h => ?_) (fun cdv B outer s H vs Q E hr h => ?_)
  · obtain ⟨n, rfl, _⟩ := h
    rfl
  · obtain ⟨n, rfl, hn, q⟩ := h
    have nd := sc__law_codes.nd
    refine ⟨_, (pss_cons (ps_set (i := 1) nd rfl (Or.inl rfl) (pe_lst (pa_cons (pe_tup pa_nil) pa_nil)))
      (C8.pss_cut (ps_for PassesOwn.never rfl (pi_range1 rfl T.g_range (pa_cons (pv 0) pa_nil)) (pg_name (i := 2) nd rfl (Or.inl rfl)) (pss_cons (ps_set (i := 3) nd rfl (Or.inl rfl) (pe_lst pa_nil))
      (C8.pss_cut (ps_for PassesOwn.never rfl (pi_list (pv 1)) (pg_name (i := 4) nd rfl (Or.inr rfl)) (pss_one (ps_set (i := 3) nd rfl (Or.inl rfl) (pe_op op_cat (pv 3) (pe_lc (own := [("item", 5)]) (g := gName 5) (tt := tYes) rfl nd (pi_range1 rfl T.g_range (pa_cons (pe_op op_add (pv 2) pe_int) pa_nil)) (blkOk_by (own := [("item", 5)]) (N := ["many", "found", "at", "late", "one", "item"]) (sc := (defScope s__law_codes)) (by decide +kernel)) (fun _ _ _ _ _ => pg_name (i := 5) nd rfl (Or.inl rfl)) (fun _ _ _ _ _ => pts_nil) (fun _ _ _ _ _ => (pe_op (r := rCatA K) op_catA (pv 4) (pe_tup (pa_cons (pv 5) pa_nil)))))))))
      (pss_one (ps_set (i := 1) nd rfl (Or.inl rfl) (pv 3))))))
      (pss_one (ps_ret (pv 1))))), ?_⟩
    refine ⟨Nat.zero_le _, fun e ne => ⟨by show 1 ≤ sizeLine; decide, fun D nD => ?_⟩⟩
    have se := Same.up (o := .tup []) ne
    have s0 : Same H (upd (upd H e (.tup [])) D (.lst [V.ref e])) := se.trans (Same.up nD)
    have eD : upd (upd H e (.tup [])) D (.lst [V.ref e]) D = some (.lst [V.ref e]) := upd_same
    have rD : NRows (upd (upd H e (.tup [])) D (.lst [V.ref e])) [V.ref e] (codsL 0) := .cons ⟨e, rfl, (Same.up nD) _ _ upd_same⟩ .nil
    have nD0 := se.free nD
    generalize upd (upd H e (.tup [])) D (.lst [V.ref e]) = G at s0 eD rD
    refine ⟨fun σ' H' => ∃ (x2 x3 x4 : Option V) (q1 : Addr) (xs : List V), σ' = [some (.int n), some (.ref q1), x2, x3, x4, none] ∧ Same H H' ∧ H q1 = none ∧ H' q1 = some (.lst xs) ∧ NRows H' xs (codsL n), ?_, ?_⟩
    · refine ⟨_, rfl, _, rfl, by omega, by omega, ?_⟩
      rw [Int.toNat_natCast]
      refine for_it (walk_range (lo := 0) (n := n)) (fun i σ' H' => ∃ (x2 x3 x4 : Option V) (q1 : Addr) (xs : List V), σ' = [some (.int n), some (.ref q1), x2, x3, x4, none] ∧ Same H H' ∧ H q1 = none ∧ H' q1 = some (.lst xs) ∧ NRows H' xs (codsL i))
        ⟨none, none, none, D, _, rfl, s0, nD0, eD, rD⟩ (fun _ _ _ _ _ => trivial) ?_ ?_
      · rintro i x σ' H2 H3 hi ⟨x2, x3, x4, q1, xs, rfl, s2, n1, e1, r1⟩ ⟨rfl, ex⟩
        obtain rfl : x = V.int (i : Nat) := by
          rw [ex]
          show V.int (0 + (i : Int)) = _
          rw [Int.zero_add]
        have hol := cods_len i (by omega)
        refine ⟨Nat.zero_le _, fun D3 n3 => ?_⟩
        have s3 := Same.up (o := .lst []) n3
        have ms : ∀ j, ((((codsL i).take j).flatMap fun p => (List.range (i + 1)).map fun x => p ++ [x])).length ≤ 600 := fun j => by
          have := flat_le (f := fun p => (List.range (i + 1)).map fun x => p ++ [x]) (c := 5) ((codsL i).take j) (fun p _ => by rw [List.length_map, List.length_range]; omega)
          have h2 : ((codsL i).take j).length ≤ 120 := by rw [List.length_take]; omega
          omega
        refine ⟨fun σ' H' => ∃ (x4 : Option V) (q3 : Addr) (ys : List V), σ' = [some (.int n), some (.ref q1), some (.int i), some (.ref q3), x4, none] ∧ Same H H' ∧ H q3 = none ∧ H' q3 = some (.lst ys) ∧ NRows H' ys (codsL (i + 1)), ?_, ?_⟩
        · refine ⟨_, rfl, q1, rfl, ⟨_, SqL.of (s3 _ _ e1)⟩, ?_⟩
          refine for_it (walk_list (xs := xs)) (fun j σ' H' => ∃ (x4 : Option V) (q3 : Addr) (ys : List V), σ' = [some (.int n), some (.ref q1), some (.int i), some (.ref q3), x4, none] ∧ Same H3 H' ∧ H3 q3 = none ∧ H' q3 = some (.lst ys) ∧ NRows H' ys (((codsL i).take j).flatMap fun p => (List.range (i + 1)).map fun x => p ++ [x]))
            ⟨x4, D3, [], rfl, s3, n3, upd_same, .nil⟩ (fun j σ' H' _ ⟨_, _, _, _, s, _⟩ => SqL.of (s _ _ e1)) ?_ ?_
          · rintro j y σ' H4 H5 hj ⟨y4, q3, ys, rfl, s4, n4, e4, r4⟩ ⟨rfl, hy⟩
            obtain ⟨hj2, t, rfl, et⟩ := r1.get hy
            have hpl := (cods_ok i _ (List.getElem_mem hj2)).1
            have et4 := s4 _ _ et
            refine ⟨_, rfl, _, rfl, _, _, rfl, rfl, _, rfl, by omega, by omega, fun D4 nD4 => ?_⟩
            rw [show ((i : Int) + 1).toNat = i + 1 by omega]
            refine lc_it (walk_range (lo := 0) (n := i + 1)) (fun m H' => Gro H5 D4 t (codsL i)[j] ((List.range m).map fun x => (codsL i)[j] ++ [x]) H') ⟨AccR.start nD4, (Same.up nD4) _ _ et4⟩ (fun _ _ _ _ => trivial) ?_ ?_
            · rintro m z H6 H7 hm gr ⟨rfl, ez⟩
              obtain rfl : z = V.int (m : Nat) := by
                rw [ez]
                show V.int (0 + (m : Int)) = _
                rw [Int.zero_add]
              refine ⟨rfl, iteT (B := Gro H5 D4 t (codsL i)[j] ((List.range (m + 1)).map fun x => (codsL i)[j] ++ [x]) H7) ?_⟩
              refine cat_el rfl rfl gr.et (by omega) fun c G2 sG ec => ?_
              rw [List.range_succ, List.map_append]
              exact gr.push sG ec (small1000 (by rw [List.length_map, List.length_range]; omega))
            · intro H6 gr
              obtain ⟨zs, ez, rz⟩ := gr.ac.a
              have s6 := gr.ac.s
              have e46 := s6 _ _ e4
              have hzl := Paired.length rz
              have hyl := Paired.length r4
              have e56 := s6 _ _ e4
              have hzl : zs.length ≤ i + 1 := by
                have := Paired.length rz
                rw [List.length_map] at this
                rw [this]
                rw [List.length_map, List.length_range]
                exact Nat.le_refl _
              have hyl : ys.length ≤ 600 := by
                have := Paired.length r4
                rw [List.length_map] at this
                rw [this]
                exact ms j
              refine ⟨q3, D4, _, _, rfl, rfl, e56, ez, by rw [sizeLine_eq]; omega, fun L nL => ?_⟩
              have sL := s6.trans (Same.up (o := .lst (ys ++ zs)) nL)
              refine ⟨_, L, _, rfl, s4.trans sL, s4.free (s6.free nL), upd_same, ?_⟩
              rw [← List.take_append_getElem hj2, List.flatMap_append, List.flatMap_cons, List.flatMap_nil, List.append_nil]
              exact RowsAt.same (NRows.app (RowsAt.same r4 s6) rz) (Same.up nL)
          · rintro σ' H4 ⟨y4, q3, ys, rfl, s4, n4, e4, r4⟩
            refine ⟨y4, q3, ys, rfl, s2.trans s4, s2.free n4, e4, ?_⟩
            have hxl := Paired.length r1
            rw [List.length_map] at hxl
            rw [hxl, List.take_length] at r4
            exact r4
        · rintro σ' H4 ⟨y4, q3, ys, rfl, s4, n4, e4, r4⟩
          exact ⟨_, rfl, _, _, _, _, _, rfl, s4, n4, e4, r4⟩
      · rintro σ' H2 ⟨x2, x3, x4, q1, xs, rfl, s2, n1, e1, r1⟩
        exact ⟨x2, x3, x4, q1, xs, rfl, s2, n1, e1, r1⟩
    · rintro σ' H2 ⟨x2, x3, x4, q1, xs, rfl, s2, n1, e1, r1⟩
      exact ⟨_, rfl, q _ _ _ s2 n1 e1 r1⟩
theorem b_lk (T : Tx K mg A) : L2.Binds K A.d__law_codes ["many"] [] := T.F__law_codes.binds fun _ _ _ _ _ _ us hl => match us, hl with | [_], _ => rfl
abbrev wInnT (K : PySem.W.Frag) : TI := iTup K (tSl (rSlT K) (tVar 0) tNoPart (tPart (tVar 2)))
def spLd : Sp := fun vs H Q _ => ∃ (a : Addr) (p : List Nat), vs = [.ref a] ∧ H a = some (.tup (nv p)) ∧ p.length ≤ 12 ∧ ∀ (H' : Hp) (t : Addr), Same H H' → H' t = some (.tup (nv (codeL p))) → Q (.ref t) H'
theorem ok_ld (T : Tx K mg A) : FnOk P w K mg base CX0 2 A.f__law_due A.d__law_due ["row"] spLd := by
  refine T.F__law_due.ok sc__law_due (fun vs H Q E h => ?_) (fun cdv B outer s H vs Q E hr h => ?_)
  · obtain ⟨a, p, rfl, _⟩ := h
    rfl
  · obtain ⟨a, p, rfl, ha, h12, q⟩ := h
    have nd := sc__law_due.nd
    refine ⟨_, (pss_one (ps_ret (pe_callTy call_tuple_of (by rfl) T.g_tuple (by decide +kernel) (pa_cons (pe_lc (own := [("at", 2)]) (g := gName 2) (tt := tYes) rfl nd (pi_range1 rfl T.g_range (pa_cons (pe_callB call_len_seq (by rfl) T.g_len PySem.boot_len (pa_cons (pv 0) pa_nil)) pa_nil)) (blkOk_by (own := [("at", 2)]) (N := ["row", "one", "at"]) (sc := (defScope s__law_due)) (by decide +kernel)) (fun _ _ _ _ _ => pg_name (i := 2) nd rfl (Or.inr rfl)) (fun _ _ _ _ _ => pts_nil) (fun _ _ _ _ _ => (pe_callB (r := rLn K) call_len_seq (by rfl) T.g_len PySem.boot_len (pa_cons (pe_lc (own := [("one", 1)]) (wi := wInnT K) (g := gName 1) rfl nd (pi_tup (pe_slice (r := rSlT K) sl_tup (pv 0) po_none (po_some (pv 2)))) (blkOk_by (own := [("one", 1)]) (N := ["row", "one", "at"]) (sc := (relS (outSc (defBody s__law_due) 0) (defScope s__law_due))) (by decide +kernel)) (fun _ _ _ _ _ => pg_name (i := 1) nd rfl (Or.inl rfl)) (fun _ _ _ _ _ => pts_one (pt_cmpR op_gt (pv 1) (pe_ix (r := rIxT K) ix_tup (pv 0) (pv 2) (fun _ _ => rfl)) (nomark _))) (fun _ _ _ _ _ => (pv 1))) pa_nil)))) pa_nil)))), ?_⟩
    refine ⟨_, rfl, a, _, rfl, .inr (SqT.of ha), _, rfl, ?_⟩
    rw [nv_len]
    refine ⟨by omega, by omega, fun D nD => ?_⟩
    rw [Int.toNat_natCast]
    refine lc_it (walk_range (lo := 0) (n := p.length)) (fun i H' => Acc H D (nv ((codeL p).take i)) H') (Acc.start nD) (fun _ _ _ _ => trivial) ?_ ?_
    · rintro j y H2 H3 hj ac ⟨rfl, ey⟩
      obtain rfl : y = V.int (j : Nat) := by
        rw [ey]
        show V.int (0 + (j : Int)) = _
        rw [Int.zero_add]
      refine ⟨rfl, iteT (B := Acc H D (nv ((codeL p).take (j + 1))) H3) ?_⟩
      have h3 := ac.s _ _ ha
      refine ⟨_, rfl, _, rfl, _, rfl, a, _, rfl, SqT.of h3, (fun z => by have z2 := z.2; rw [HT.sIx_nat, nv_len] at z2; omega), fun p2 hp2 => ?_⟩
      rw [nv_cut _ _ (by omega)]
      have s4 := Same.up (o := .tup (nv (p.take j))) hp2
      have hp4 : upd H3 p2 (.tup (nv (p.take j))) p2 = some (.tup (nv (p.take j))) := upd_same
      generalize upd H3 p2 (.tup (nv (p.take j))) = G4 at s4 hp4
      have ha4 := s4 _ _ h3
      refine ⟨p2, rfl, ⟨_, SqT.of hp4⟩, fun D2 nD2 => ?_⟩
      have htl : (natB (p.take j)).length ≤ 12 := by rw [natB_len, List.length_take]; omega
      refine lc_it (walk_tup (xs := nv (p.take j))) (PickI G4 D2 (natB (p.take j)) fun z => if decide (((p[j] : Nat) : Int) < z) = true then some (V.int z) else none) (pick_start nD2) (fun i H' _ h => SqT.of (h.s _ _ hp4)) ?_ ?_
      · rintro i x H5 H6 hi pk ⟨rfl, ex⟩
        obtain ⟨hi2, rfl⟩ := map_at ex
        refine ⟨rfl, _, rfl, _, rfl, _, rfl, a, _, _, _, rfl, rfl, SqT.of (pk.s _ _ ha4), atI_nat (nv_get hj), _, _, rfl, rfl, _, rfl, ?_⟩
        by_cases hf : ((p[j] : Nat) : Int) < (natB (p.take j))[i]
        · rw [decide_eq_true hf]
          exact iteT ⟨_, rfl, pick_yes hi2 (by omega) (by rw [decide_eq_true hf]; rfl) (Same.refl _) pk⟩
        · rw [decide_eq_false hf]
          exact iteF (pick_no hi2 (by rw [decide_eq_false hf]; rfl) (Same.refl _) pk)
      · intro H5 pk
        have aL := pick_end (by rw [nv_len, natB_len]) pk
        refine ⟨D2, _, rfl, .inl (SqL.of aL.a), ?_⟩
        rw [more_len]
        have ac5 := (ac.same s4).same aL.s
        refine ⟨_, ac5.a, by rw [nv_len, List.length_take, codeL_len, sizeLine_eq]; omega, ?_⟩
        rw [code_step hj]
        exact ac5.push
    · intro H2 ac
      rw [show (codeL p).take p.length = codeL p by rw [← codeL_len, List.take_length]] at ac
      exact ⟨D, _, rfl, .inl ⟨SqL.of ac.a, fun t nt => q _ t (ac.s.trans (Same.up nt)) upd_same⟩⟩
theorem b_ld (T : Tx K mg A) : L2.Binds K A.d__law_due ["row"] [] := T.F__law_due.binds fun _ _ _ _ _ _ us hl => match us, hl with | [_], _ => rfl
def muL (L : Addr) (H : Hp) : Nat := match H L with
  | some (.lst xs) => xs.length
  | _ => 0
theorem muL_at {L : Addr} {H : Hp} {xs : List V} (h : H L = some (.lst xs)) : muL L H = xs.length := by
  unfold muL
  rw [h]
def spLdr (K : PySem.W.Frag) : Sp := fun vs H Q _ => ∃ (a n : Nat) (ns : List Int), vs = [.ref a, .int n] ∧ SqL K H a (ns.map V.int) ∧ ns.length ≤ 63 ∧ n ≤ 12 ∧
  ∀ (H' : Hp) (t : Addr) (p : List Nat), Same H H' → H' t = some (.tup (nv p)) → p.Perm (List.range n) → Q (.ref t) H'
theorem ok_ldr (T : Tx K mg A) : FnOk P w K mg base CX0 3 A.f__law_drawn A.d__law_drawn ["script", "many"] (spLdr K) := by
  refine T.F__law_drawn.ok sc__law_drawn (fun vs H Q E h => ?_) (fun cdv B outer s H vs Q E hr h => ?_)
  · obtain ⟨a, n, ns, rfl, _⟩ := h
    rfl
  · obtain ⟨a, n, ns, rfl, ha, h63, hn, q⟩ := h
    have nd := sc__law_drawn.nd
    have hu := hr.units
    refine ⟨_, (pss_cons (ps_par (i := 2) (j := 3) rfl nd rfl rfl (by decide) rfl rfl (pa_cons (pe_listRg rfl (by rfl) T.g_list (prg_1 (by rfl) T.g_range (pv 1))) (pa_cons (pe_lst pa_nil) pa_nil)) rfl)
      (C8.pss_cut (ps_while PassesOwn.never (pt_cmpR (op_neD hu) (pv 2) (pe_lst pa_nil) (nomark _)) (pss_one (ps_expr (pe_bm PySem.F.plainAttrs_list PySem.F.slot_list_append PySem.F.type_list_append mt_append (pv 3) (pa_cons (pe_bm PySem.F.plainAttrs_list PySem.F.slot_list_pop PySem.F.type_list_pop mt_popAt (pv 2) (pa_cons (pe_op op_mod (pe_callTy call_int1 (by rfl) T.g_int (by decide +kernel) (pa_cons (pe_call (ok_num T) (hr.mono (by decide)) (by rfl) T.m__law_number T.F__law_number.kp (b_num T) .nil pass0 (pa_cons (pv 0) (pa_cons (pe_op op_add pe_int (pe_callB call_len_seq (by rfl) T.g_len PySem.boot_len (pa_cons (pv 3) pa_nil))) pa_nil))) pa_nil)) (pe_callB call_len_seq (by rfl) T.g_len PySem.boot_len (pa_cons (pv 2) pa_nil))) pa_nil)) pa_nil)))))
      (pss_one (ps_ret (pe_callTy call_tuple_of (by rfl) T.g_tuple (by decide +kernel) (pa_cons (pv 3) pa_nil)))))), ?_⟩
    refine ⟨_, rfl, _, rfl, RgOk.of_le (by omega) (by omega) (by omega) (by omega), fun L nL => ?_⟩
    rw [nv_rg]
    refine ⟨Nat.zero_le _, fun O nO => ⟨_, _, rfl, ?_⟩⟩
    have sL : Same H (upd H L (.lst (nv (List.range n)))) := Same.up nL
    have nO0 := sL.free nO
    have hLO : O ≠ L := fun z => by
      rw [z, upd_same] at nO
      cases nO
    have s0 : Same H (upd (upd H L (.lst (nv (List.range n)))) O (.lst [])) := sL.trans (Same.up nO)
    have eL0 : upd (upd H L (.lst (nv (List.range n)))) O (.lst []) L = some (.lst (nv (List.range n))) := by
      rw [upd_ne hLO.symm, upd_same]
    have eO0 : upd (upd H L (.lst (nv (List.range n)))) O (.lst []) O = some (.lst []) := upd_same
    generalize upd (upd H L (.lst (nv (List.range n)))) O (.lst []) = G at s0 eL0 eO0
    refine ⟨fun σ' H' => σ' = [some (.ref a), some (.int n), some (.ref L), some (.ref O)] ∧ Same H H' ∧ ∃ p : List Nat, H' O = some (.lst (nv p)) ∧ p.Perm (List.range n), ?_, ?_⟩
    · refine while_by (fun σ' H' => σ' = [some (.ref a), some (.int n), some (.ref L), some (.ref O)] ∧ Same H H' ∧ ∃ left out : List Nat, H' L = some (.lst (nv left)) ∧ H' O = some (.lst (nv out)) ∧ (out ++ left).Perm (List.range n))
        (fun _ H' => muL L H') ⟨rfl, s0, List.range n, [], eL0, eO0, List.Perm.refl _⟩ ?_ ?_
      · rintro σ' H2 ⟨rfl, s2, left, out, eL, eO, perm⟩
        have hln := perm.length_eq
        rw [List.length_append, List.length_range] at hln
        refine ⟨_, rfl, Nat.zero_le _, fun l0 hl0 => ?_⟩
        have s3 := Same.up (o := .lst []) hl0
        refine ⟨.list ((natB left).map PyData.int), .list [], .lst (SqL.of (s3 _ _ eL)) (ints_dp _ _ _), .lst (SqL.of upd_same) .nil, shaped_ints _, rfl, _, rfl, ?_⟩
        rw [emp_eqv]
        by_cases e : left = []
        · subst e
          rw [show decide (natB [] = []) = true from rfl]
          rw [List.append_nil] at perm
          exact iteF ⟨rfl, s2.trans s3, out, s3 _ _ eO, perm⟩
        · rw [show decide (natB left = []) = false from decide_eq_false (fun z => e (List.map_eq_nil_iff.mp z))]
          refine iteT ?_
          have hp := List.length_pos_iff.mpr e
          have eL3 := s3 _ _ eL
          have eO3 := s3 _ _ eO
          have s23 := s2.trans s3
          generalize upd H2 l0 (.lst []) = G3 at s3 eL3 eO3 s23
          refine ⟨_, rfl, .inl ⟨rfl, _, SqL.of eO3⟩, _, rfl, .inl ⟨rfl, _, SqL.of eL3⟩, ?_⟩
          refine ⟨_, rfl, _, rfl, O, _, rfl, .inl (SqL.of eO3), _, _, rfl, rfl, ?_⟩
          refine ⟨a, ns, 2 + out.length, congrArg (fun z => [V.ref a, V.int z]) (by rw [nv_len]; omega), s23.seq ha, h63, by omega, fun H4 r s4 => ?_⟩
          have eL4 := s4 _ _ eL3
          have eO4 := s4 _ _ eO3
          refine .inl ⟨_, rfl, _, rfl, L, _, rfl, .inl (SqL.of eL4), ?_⟩
          rw [nv_len]
          refine ⟨_, _, rfl, rfl, by omega, ?_⟩
          have m0 := Int.emod_nonneg r (show ((left.length : Nat) : Int) ≠ 0 by omega)
          have m1 := Int.emod_lt_of_pos r (show (0 : Int) < (left.length : Nat) by omega)
          obtain ⟨z, hz⟩ : ∃ z : Nat, r % (left.length : Nat) = (z : Int) := ⟨_, (Int.toNat_of_nonneg m0).symm⟩
          have hzl : z < left.length := by omega
          refine ⟨L, _, (z : Int), z, V.int (left[z] : Nat), rfl, (by show [V.int (r % ((left.length : Nat) : Int))] = [V.int (z : Int)]; rw [hz]), eL4, by omega, by omega, ?_, nv_get hzl, ?_⟩
          · unfold seqIndex?
            rw [nv_len]
            simp
            omega
          have sU : ∀ (zs zs2 : List V), Same H (upd (upd H4 L (.lst zs)) O (.lst zs2)) := fun zs zs2 b o e => by
            rw [upd_ne (ne_of_none e nO0), upd_ne (ne_of_none e nL)]
            exact s4 _ _ (s23 _ _ e)
          have eL5 : ∀ (zs zs2 : List V), upd (upd H4 L (.lst zs)) O (.lst zs2) L = some (.lst zs) := fun zs zs2 => by rw [upd_ne hLO.symm, upd_same]
          refine ⟨O, _, _, rfl, rfl, by rw [upd_ne hLO]; exact eO4, by rw [nv_len, sizeLine_eq]; omega, ⟨rfl, sU _ _, left.eraseIdx z, out ++ [left[z]], ?_, ?_, ?_⟩, ?_⟩
          · rw [eL5, eraN]
          · rw [upd_same, appN]
          · rw [List.append_assoc]
            exact ((perm_at left z hzl).append_left out).trans perm
          · rw [muL_at (eL5 _ _), muL_at eL, eraN, nv_len, nv_len, List.length_eraseIdx_of_lt hzl]
            omega
      · rintro σ' H2 Q1 Q2 mono ⟨v, hv, hz, f⟩
        exact ⟨v, hv, hz, fun l hl => let ⟨d, e, a, b, s1, s2, c, e2, z⟩ := f l hl; ⟨d, e, a, b, s1, s2, c, e2, mono _ _ z⟩⟩
    · rintro σ' H2 ⟨rfl, s2, p, eO, perm⟩
      exact ⟨_, rfl, O, _, rfl, .inl ⟨SqL.of eO, fun t nt => q _ t p (s2.trans (Same.up nt)) upd_same perm⟩⟩
theorem b_ldr (T : Tx K mg A) : L2.Binds K A.d__law_drawn ["script", "many"] [] := T.F__law_drawn.binds fun _ _ _ _ _ _ us hl => match us, hl with | [_, _], _ => rfl

end
end Tw

set_option Elab.async false
set_option linter.all false
set_option maxRecDepth 100000
set_option maxHeartbeats 2000000
namespace Tw
open PySem PySem.Spec PyProof.Rows L2
section
variable {P : Program} {w : World} {K : PySem.W.Frag} {mg : Str → Option Value} {base : Heap} {A : Ad}
/-! the law -/
def spLaw (K : PySem.W.Frag) : Sp := fun vs H Q _ => ∃ (a : Addr) (ns : List Int), vs = [.ref a] ∧ SqL K H a (ns.map V.int) ∧ ns.length ≤ 63 ∧ ∀ H', Q (.bl true) H'
theorem nv_tup (K : PySem.W.Frag) {H : Hp} {a : Addr} {p : List Nat} (h : H a = some (.tup (nv p))) : Dp K H (.ref a) (rowD (natB p)) := ints_tup K h
theorem rowD_same (p : List Nat) : PyData.eqv (rowD (natB p)) (rowD (natB p)) = true := by rw [rowD_eqv, decide_eq_true rfl]
theorem sort_rows {K : PySem.W.Frag} {H : Hp} {q : Addr} {ys : List V} {ls : List (List Nat)} {Q : VK} (h : H q = some (.lst ys)) (r : NRows H ys ls) (hn : (∀ l ∈ ls, l ≠ []) ∨ ls.length ≤ 1)
    (fin : ∀ (zs : List V) (p : Addr), H p = none → Paired (TupI K H) zs ((ls.map natB).mergeSort fun p q => decide (p ≤ q)) → Q (.ref p) (upd H p (.lst zs))) : rSortTA K [.ref q] H Q ∨ rSort1 K [.ref q] H Q := by
  rcases hn with hn | hn
  · refine .inl ⟨q, ys, ls.map natB, rfl, SqL.of h, tupI_of r, fun b hb => ?_, fun zs p hz np => fin zs p np hz⟩
    obtain ⟨l, hl, rfl⟩ := List.mem_map.mp hb
    exact fun z => hn l hl (List.map_eq_nil_iff.mp z)
  · have hyl := Paired.length r
    rw [List.length_map] at hyl
    refine .inr ⟨q, ys, rfl, SqL.of h, by omega, fun p np => fin ys p np ?_⟩
    have e : (ls.map natB).mergeSort (fun p q => decide (p ≤ q)) = ls.map natB := by
      match ls, hn with
      | [], _ => exact List.mergeSort_nil
      | [x], _ => exact List.mergeSort_singleton _
      | _ :: _ :: _, hl => simp only [List.length_cons] at hl; omega
    rw [e]
    exact tupI_of r
theorem cods_ne (m : Nat) : (∀ l ∈ (codsL m).map orderL, l ≠ []) ∨ ((codsL m).map orderL).length ≤ 1 := by
  by_cases h : m = 0
  · subst h
    exact .inr (by decide)
  · refine .inl fun l hl z => ?_
    obtain ⟨c, hc, rfl⟩ := List.mem_map.mp hl
    have h1 := orderL_len c
    rw [z, (cods_ok m c hc).1] at h1
    exact h h1.symm
theorem ords_ne (m : Nat) : (∀ l ∈ ordsL m m, l ≠ []) ∨ (ordsL m m).length ≤ 1 := by
  by_cases h : m = 0
  · subst h
    exact .inr (by decide)
  · refine .inl fun l hl z => ?_
    have h1 := ords_el m m l hl
    rw [z] at h1
    exact h h1.symm
theorem ok_law (T : Tx K mg A) : FnOk P w K mg base CX0 5 A.f_law A.d_law ["script"] (spLaw K) := by
  refine T.F_law.ok sc_law (fun vs H Q E h => ?_) (fun cdv B outer s H vs Q E hr h => ?_)
  · obtain ⟨a, ns, rfl, _⟩ := h
    rfl
  · obtain ⟨a, ns, rfl, ha, h63, q⟩ := h
    have nd := sc_law.nd
    have hu : (B.deeper (envOfC "law" (defScope s_law) s.heap.objs.size A.f_law cdv)).units + 64 < cLine := by have := hr.un; omega
    have hu2 : (B.deeper (envOfC "law" (defScope s_law) s.heap.objs.size A.f_law cdv)).units + 65 < cLine := by have := hr.un; omega
    refine ⟨_, PSs.nox (C8.pss_cut (ps_set (i := 1) nd rfl (Or.inl rfl) (pe_callTy call_int1 (by rfl) T.g_int (by decide +kernel) (pa_cons (pe_call (ok_num T) (hr.mono (by decide)) (by rfl) T.m__law_number T.F__law_number.kp (b_num T) .nil pass0 (pa_cons (pv 0) (pa_cons pe_int pa_nil))) pa_nil)))
      (C8.pss_cut (ps_set (i := 2) nd rfl (Or.inl rfl) (pe_op op_mod (pe_callTy call_int1 (by rfl) T.g_int (by decide +kernel) (pa_cons (pv 1) pa_nil)) pe_int))
      (C8.pss_cut (ps_for PassesOwn.never rfl (pi_list (pe_call (ok_lo T) (hr.mono (by decide)) (by rfl) T.m__law_orders T.F__law_orders.kp (b_lo T) .nil pass0 (pa_cons (pv 2) pa_nil))) (pg_name (i := 3) nd rfl (Or.inl rfl)) (C8.pss_cut (ps_set (i := 4) nd rfl (Or.inl rfl) (pe_call (ok_oc T) (hr.mono (by decide)) (by rfl) T.m_order_code T.F_order_code.kp (b_oc T) .nil pass0 (pa_cons (pv 3) pa_nil)))
      (C8.pss_cut (ps_if (PW.pt (pw_or (pt_cmpR (op_neD hu) (pv 4) (pe_call (ok_ld T) (hr.mono (by decide)) (by rfl) T.m__law_due T.F__law_due.kp (b_ld T) .nil pass0 (pa_cons (pv 3) pa_nil)) (nomark _)) (pw_or (pt_cmpR (op_neD hu) (pe_call (ok_oc T) (hr.mono (by decide)) (by rfl) T.m_order_code T.F_order_code.kp (b_oc T) .nil pass0 (pa_cons (pe_callTy call_list_of (by rfl) T.g_list (by decide +kernel) (pa_cons (pv 3) pa_nil)) pa_nil)) (pv 4) (nomark _)) (pw_or1 (pt_not (pt_val (pe_callB call_isi (by rfl) T.g_isinstance (by decide +kernel) (pa_cons (pv 4) (pa_cons (pe_bltn (v := .ty "tuple") (by rfl) T.g_tuple (by decide +kernel) rfl) pa_nil))))))))) (pss_one (ps_ret pe_bl)) pss_nil)
      (pss_one (ps_if (PW.pt (pw_or (pt_cmpR (op_neD hu) (pe_call (ok_ob T) (hr.mono (by decide)) (by rfl) T.m_order_by T.F_order_by.kp (b_ob T) .nil pass0 (pa_cons (pv 4) pa_nil)) (pv 3) (nomark _)) (pw_or (pt_cmpR (op_neD hu) (pe_call (ok_ob T) (hr.mono (by decide)) (by rfl) T.m_order_by T.F_order_by.kp (b_ob T) .nil pass0 (pa_cons (pe_callTy call_list_of (by rfl) T.g_list (by decide +kernel) (pa_cons (pv 4) pa_nil)) pa_nil)) (pv 3) (nomark _)) (pw_or1 (pt_not (pt_val (pe_callB call_isi (by rfl) T.g_isinstance (by decide +kernel) (pa_cons (pe_call (ok_ob T) (hr.mono (by decide)) (by rfl) T.m_order_by T.F_order_by.kp (b_ob T) .nil pass0 (pa_cons (pv 4) pa_nil)) (pa_cons (pe_bltn (v := .ty "tuple") (by rfl) T.g_tuple (by decide +kernel) rfl) pa_nil))))))))) (pss_one (ps_ret pe_bl)) pss_nil)))))
      (C8.pss_cut (ps_setLc (i := 5) (own := [("numbers", 4)]) (g := gName 4) (tt := tYes) rfl nd rfl rfl (sw_true rfl rfl rfl (by decide +kernel)) (pi_list (pe_call (ok_lk T) (hr.mono (by decide)) (by rfl) T.m__law_codes T.F__law_codes.kp (b_lk T) .nil pass0 (pa_cons (pv 2) pa_nil))) (blkOk_by (own := [("numbers", 4)]) (N := ["script", "seed", "many", "row", "numbers", "rows", "at"]) (sc := (defScope s_law)) (by decide +kernel)) (fun _ _ _ _ _ => pg_name (i := 4) nd rfl (Or.inl rfl)) (fun _ _ _ _ _ => pts_nil) (fun _ _ _ _ _ => (pe_call (ok_ob T) (hr.mono (by decide)) (by rfl) T.m_order_by T.F_order_by.kp (b_ob T) .nil pass0 (pa_cons (pv 4) pa_nil))))
      (C8.pss_cut (ps_if (pt_cmpR (op_neD hu) (pe_callB (cr_or (cr_sortTA hu2) cr_sort1) (by rfl) T.g_sorted (by decide +kernel) (pa_cons (pv 5) pa_nil)) (pe_callB (cr_or (cr_sortTA hu2) cr_sort1) (by rfl) T.g_sorted (by decide +kernel) (pa_cons (pe_call (ok_lo T) (hr.mono (by decide)) (by rfl) T.m__law_orders T.F__law_orders.kp (b_lo T) .nil pass0 (pa_cons (pv 2) pa_nil)) pa_nil)) (nomark _)) (pss_one (ps_ret pe_bl)) pss_nil)
      (C8.pss_cut (ps_set (i := 3) nd rfl (Or.inl rfl) (pe_call (ok_ldr T) (hr.mono (by decide)) (by rfl) T.m__law_drawn T.F__law_drawn.kp (b_ldr T) .nil pass0 (pa_cons (pv 0) (pa_cons (pe_op op_mod (pe_callTy call_int1 (by rfl) T.g_int (by decide +kernel) (pa_cons (pe_op op_fdivN (pv 1) pe_int) pa_nil)) pe_int) pa_nil))))
      (C8.pss_cut (ps_set (i := 4) nd rfl (Or.inl rfl) (pe_callTy call_tuple_of (by rfl) T.g_tuple (by decide +kernel) (pa_cons (pe_lc (own := [("at", 6)]) (g := gName 6) (tt := tYes) rfl nd (pi_range1 rfl T.g_range (pa_cons (pe_op op_mod (pe_callTy call_int1 (by rfl) T.g_int (by decide +kernel) (pa_cons (pe_op op_fdivN (pv 1) pe_int) pa_nil)) pe_int) pa_nil)) (blkOk_by (own := [("at", 6)]) (N := ["script", "seed", "many", "row", "numbers", "rows", "at"]) (sc := (defScope s_law)) (by decide +kernel)) (fun _ _ _ _ _ => pg_name (i := 6) nd rfl (Or.inl rfl)) (fun _ _ _ _ _ => pts_nil) (fun _ _ _ _ _ => (pe_op op_mod (pe_callTy call_int1 (by rfl) T.g_int (by decide +kernel) (pa_cons (pe_call (ok_num T) (hr.mono (by decide)) (by rfl) T.m__law_number T.F__law_number.kp (b_num T) .nil pass0 (pa_cons (pv 0) (pa_cons (pe_op op_add pe_int (pv 6)) pa_nil))) pa_nil)) (pe_op op_add (pv 6) pe_int)))) pa_nil)))
      (C8.pss_cut (ps_if (PW.pt (pw_or (pt_cmpR (op_neD hu) (pe_call (ok_oc T) (hr.mono (by decide)) (by rfl) T.m_order_code T.F_order_code.kp (b_oc T) .nil pass0 (pa_cons (pv 3) pa_nil)) (pe_call (ok_ld T) (hr.mono (by decide)) (by rfl) T.m__law_due T.F__law_due.kp (b_ld T) .nil pass0 (pa_cons (pv 3) pa_nil)) (nomark _)) (pw_or1 (pt_cmpR (op_neD hu) (pe_call (ok_ob T) (hr.mono (by decide)) (by rfl) T.m_order_by T.F_order_by.kp (b_ob T) .nil pass0 (pa_cons (pe_call (ok_ld T) (hr.mono (by decide)) (by rfl) T.m__law_due T.F__law_due.kp (b_ld T) .nil pass0 (pa_cons (pv 3) pa_nil)) pa_nil)) (pv 3) (nomark _))))) (pss_one (ps_ret pe_bl)) pss_nil)
      (pss_one (ps_ret (pe_and (pe_cmpR (op_eqD hu) (pe_call (ok_oc T) (hr.mono (by decide)) (by rfl) T.m_order_code T.F_order_code.kp (b_oc T) .nil pass0 (pa_cons (pe_call (ok_ob T) (hr.mono (by decide)) (by rfl) T.m_order_by T.F_order_by.kp (b_ob T) .nil pass0 (pa_cons (pv 4) pa_nil)) pa_nil)) (pv 4) (nomark _)) (pe_one (pe_cmpR (op_eqD hu) (pe_callB cr_sortedTu (by rfl) T.g_sorted (by decide +kernel) (pa_cons (pe_call (ok_ob T) (hr.mono (by decide)) (by rfl) T.m_order_by T.F_order_by.kp (b_ob T) .nil pass0 (pa_cons (pv 4) pa_nil)) pa_nil)) (pe_listRg rfl (by rfl) T.g_list (prg_1 (by rfl) T.g_range (pe_callB call_len_seq (by rfl) T.g_len PySem.boot_len (pa_cons (pv 4) pa_nil)))) (nomark _)))))))))))))), ?_⟩
    refine ⟨fun σ' H' => ∃ r : Int, σ' = [some (.ref a), some (.int r), none, none, none, none, none] ∧ Same H H', ?_, ?_⟩
    · exact ⟨_, rfl, a, ns, 0, rfl, ha, h63, by omega, fun H1 r s1 => .inl ⟨_, rfl, r, rfl, s1⟩⟩
    rintro σ' H1 ⟨r, rfl, s1⟩
    refine ⟨fun σ' H' => ∃ m : Nat, σ' = [some (.ref a), some (.int r), some (.int m), none, none, none, none] ∧ Same H H' ∧ m ≤ 5, ?_, ?_⟩
    · have m0 := Int.emod_nonneg r (show (6 : Int) ≠ 0 by decide)
      have m1 := Int.emod_lt_of_pos r (show (0 : Int) < 6 by decide)
      obtain ⟨m, hm⟩ : ∃ m : Nat, r % 6 = (m : Int) := ⟨_, (Int.toNat_of_nonneg m0).symm⟩
      exact ⟨_, rfl, .inl ⟨_, rfl, _, _, rfl, rfl, by show (0 : Int) < 6; decide, m, congrArg (fun z => [some (V.ref a), some (V.int r), some (V.int z), none, none, none, none]) hm, s1, by omega⟩⟩
    rintro σ' H2 ⟨m, rfl, s2, hm⟩
    -- all orders
    refine ⟨fun σ' H' => ∃ x3 x4 : Option V, σ' = [some (.ref a), some (.int r), some (.int m), x3, x4, none, none] ∧ Same H H', ?_, ?_⟩
    · refine ⟨_, rfl, m, rfl, hm, fun H3 q1 xs s3 n3 e3 r3 => ?_⟩
      refine ⟨q1, rfl, ⟨_, SqL.of e3⟩, for_it (walk_list (xs := xs)) (fun i σ' H' => ∃ x3 x4 : Option V, σ' = [some (.ref a), some (.int r), some (.int m), x3, x4, none, none] ∧ Same H3 H') ⟨none, none, rfl, Same.refl _⟩ (fun i σ' H' _ ⟨_, _, _, s⟩ => SqL.of (s _ _ e3)) ?_ ?_⟩
      · rintro i y σ' H4 H5 hi ⟨x3, x4, rfl, s4⟩ ⟨rfl, hy⟩
        obtain ⟨hi2, t, rfl, et⟩ := r3.get hy
        have hpl := ords_el m m _ (List.getElem_mem hi2)
        have hp := ords_ok m hm _ (List.getElem_mem hi2)
        generalize (ordsL m m)[i] = p at et hpl hp
        have hpp : p.Perm (List.range p.length) := by rw [hpl]; exact hp
        have et4 := s4 _ _ et
        refine ⟨fun σ' H' => ∃ c : Addr, σ' = [some (.ref a), some (.int r), some (.int m), some (.ref t), some (.ref c), none, none] ∧ Same H3 H' ∧ H' c = some (.tup (nv (codeL p))), ?_, ?_⟩
        · exact ⟨_, rfl, t, p, rfl, .inr et4, by omega, hpp, fun H6 c s6 ec => ⟨c, rfl, s4.trans s6, ec⟩⟩
        rintro σ' H6 ⟨c, rfl, s6, ec⟩
        have et6 := s6 _ _ et
        refine ⟨fun σ' H' => σ' = [some (.ref a), some (.int r), some (.int m), some (.ref t), some (.ref c), none, none] ∧ Same H3 H' ∧ H' c = some (.tup (nv (codeL p))), ?_, ?_⟩
        · refine ⟨_, rfl, _, rfl, t, p, rfl, et6, by omega, fun H7 d s7 ed => ?_⟩
          refine ⟨_, _, nv_tup K (s7 _ _ ec), nv_tup K ed, ints_shT _, ints_shT _, _, rfl, ?_⟩
          rw [rowD_same]
          refine iteF ?_
          refine ⟨_, rfl, t, _, rfl, .inr (SqT.of (s7 _ _ et6)), fun l nl => ?_⟩
          have s8 := Same.up (o := .lst (nv p)) nl
          refine ⟨l, p, rfl, .inl upd_same, by omega, hpp, fun H9 c2 s9 ec2 => ?_⟩
          have ec9 := s9 _ _ (s8 _ _ (s7 _ _ ec))
          refine ⟨_, rfl, _, _, nv_tup K ec2, nv_tup K ec9, ints_shT _, ints_shT _, _, rfl, ?_⟩
          rw [rowD_same]
          refine iteF ?_
          exact ⟨_, rfl, _, _, .type "tuple", .type "tuple", true, rfl, .ty "tuple", .base (.tup ec9), kit_ty (by decide +kernel), true, rfl, iteF ⟨rfl, ((s6.trans s7).trans s8).trans s9, ec9⟩⟩
        rintro σ' H7 ⟨rfl, s7, ec7⟩
        have et7 := s7 _ _ et
        have hcl : (codeL p).length ≤ 12 := by rw [codeL_len]; omega
        refine ⟨_, rfl, c, codeL p, rfl, .inr ec7, hcl, codeL_le p, fun H8 t2 s8 et2 => ?_⟩
        rw [order_code hpp] at et2
        refine ⟨_, rfl, _, _, nv_tup K et2, nv_tup K (s8 _ _ et7), ints_shT _, ints_shT _, _, rfl, ?_⟩
        rw [rowD_same]
        refine iteF ?_
        refine ⟨_, rfl, c, _, rfl, .inr (SqT.of (s8 _ _ ec7)), fun l nl => ?_⟩
        have s9 := Same.up (o := .lst (nv (codeL p))) nl
        refine ⟨l, codeL p, rfl, .inl upd_same, hcl, codeL_le p, fun H10 t3 s10 et3 => ?_⟩
        rw [order_code hpp] at et3
        have sA := (s8.trans s9).trans s10
        refine ⟨_, rfl, _, _, nv_tup K et3, nv_tup K (sA _ _ et7), ints_shT _, ints_shT _, _, rfl, ?_⟩
        rw [rowD_same]
        refine iteF ?_
        refine ⟨_, rfl, c, codeL p, rfl, .inr (sA _ _ ec7), hcl, codeL_le p, fun H11 t4 s11 et4 => ?_⟩
        exact ⟨_, _, .type "tuple", .type "tuple", true, rfl, .ty "tuple", .base (.tup et4), kit_ty (by decide +kernel), true, rfl, iteF ⟨_, _, rfl, (s7.trans sA).trans s11⟩⟩
      · rintro σ' H4 ⟨x3, x4, rfl, s4⟩
        exact ⟨x3, x4, rfl, (s2.trans s3).trans s4⟩
    rintro σ' H3 ⟨x3, x4, rfl, s3⟩
    refine ⟨fun σ' H' => ∃ (q5 : Addr) (ys : List V), σ' = [some (.ref a), some (.int r), some (.int m), x3, x4, some (.ref q5), none] ∧ Same H H' ∧ H' q5 = some (.lst ys) ∧ NRows H' ys ((codsL m).map orderL), ?_, ?_⟩
    · refine ⟨_, rfl, m, rfl, hm, fun H4 q1 xs s4 n4 e4 r4 => ?_⟩
      refine ⟨q1, rfl, ⟨_, SqL.of e4⟩, fun D nD => ?_⟩
      have hxl : xs.length = (codsL m).length := by
        have := Paired.length r4
        rw [List.length_map] at this
        exact this
      have hcl := cods_len m hm
      refine lc_it (walk_list (xs := xs)) (fun j H' => AccR H4 D ((((codsL m).take j).map orderL).map natB) H') (AccR.start nD) (fun j H' _ ac => SqL.of (ac.s _ _ e4)) ?_ ?_
      · rintro j y H5 H6 hj ac ⟨rfl, hy⟩
        obtain ⟨hj2, t, rfl, et⟩ := r4.get hy
        obtain ⟨hl, hb⟩ := cods_ok m _ (List.getElem_mem hj2)
        refine ⟨rfl, iteT (B := AccR H4 D ((((codsL m).take (j + 1)).map orderL).map natB) H6) ?_⟩
        refine ⟨_, rfl, t, (codsL m)[j], rfl, .inr (ac.s _ _ et), by omega, hb, fun H7 u s7 eu => ?_⟩
        obtain ⟨acc, a1, a2, a3⟩ := (ac.same s7).push (x := .ref u) (l := natB (orderL (codsL m)[j])) ⟨u, rfl, eu⟩ (small1000 (by rw [List.length_map, List.length_map, List.length_take]; omega))
        refine ⟨acc, a1, a2, ?_⟩
        rw [← List.take_append_getElem hj2, List.map_append, List.map_append]
        exact a3
      · intro H5 ac
        rw [hxl, List.take_length] at ac
        obtain ⟨ys, ey, ry⟩ := ac.a
        exact ⟨D, ys, rfl, (s3.trans s4).trans ac.s, ey, ry⟩
    rintro σ' H4 ⟨q5, ys, rfl, s4, e5, r5⟩
    refine ⟨fun σ' H' => σ' = [some (.ref a), some (.int r), some (.int m), x3, x4, some (.ref q5), none] ∧ Same H H', ?_, ?_⟩
    · refine ⟨_, rfl, sort_rows e5 r5 (cods_ne m) fun zs p np hz => ?_⟩
      have s5 := Same.up (o := .lst zs) np
      refine ⟨_, rfl, m, rfl, hm, fun H6 q6 ws s6 n6 e6 r6 => ?_⟩
      refine sort_rows e6 r6 (ords_ne m) fun us p2 np2 hu3 => ?_
      have s7 := Same.up (o := .lst us) np2
      refine ⟨_, _, .lst (SqL.of (s7 _ _ (s6 _ _ upd_same))) (tupI_dp (tupI_sm (s5.trans (s6.trans s7)) hz)), .lst (SqL.of upd_same) (tupI_dp (tupI_sm s7 hu3)), rowsD_shaped _, rowsD_shaped _, _, rfl, ?_⟩
      rw [rowsL_eqv, decide_eq_true (sort_same m hm)]
      exact iteF ⟨rfl, ((s4.trans s5).trans s6).trans s7⟩
    rintro σ' H5 ⟨rfl, s5⟩
    refine ⟨fun σ' H' => ∃ (t : Addr) (p : List Nat), σ' = [some (.ref a), some (.int r), some (.int m), some (.ref t), x4, some (.ref q5), none] ∧ Same H H' ∧ H' t = some (.tup (nv p)) ∧ p.Perm (List.range p.length) ∧ p.length ≤ 12, ?_, ?_⟩
    · have m0 := Int.emod_nonneg (Int.fdiv r 6) (show (13 : Int) ≠ 0 by decide)
      have m1 := Int.emod_lt_of_pos (Int.fdiv r 6) (show (0 : Int) < 13 by decide)
      obtain ⟨n, hn⟩ : ∃ n : Nat, Int.fdiv r 6 % 13 = (n : Int) := ⟨_, (Int.toNat_of_nonneg m0).symm⟩
      refine ⟨_, rfl, _, rfl, _, _, rfl, rfl, ⟨by decide, by decide⟩, .inl ⟨_, rfl, _, _, rfl, rfl, by show (0 : Int) < 13; decide, a, n, ns, congrArg (fun z => [V.ref a, V.int z]) hn, s5.seq ha, h63, by omega, fun H6 t p s6 et perm => ?_⟩⟩
      have hl := perm.length_eq
      rw [List.length_range] at hl
      exact ⟨t, p, rfl, s5.trans s6, et, by rw [hl]; exact perm, by omega⟩
    rintro σ' H6 ⟨t, p, rfl, s6, et, hpp, hpl⟩
    refine ⟨fun σ' H' => ∃ (u : Addr) (c : List Nat), σ' = [some (.ref a), some (.int r), some (.int m), some (.ref t), some (.ref u), some (.ref q5), none] ∧ Same H H' ∧ H' t = some (.tup (nv p)) ∧ H' u = some (.tup (nv c)) ∧ c.length ≤ 12 ∧ ∀ (i x : Nat), c[i]? = some x → x ≤ i, ?_, ?_⟩
    · have m0 := Int.emod_nonneg (Int.fdiv r 78) (show (13 : Int) ≠ 0 by decide)
      have m1 := Int.emod_lt_of_pos (Int.fdiv r 78) (show (0 : Int) < 13 by decide)
      obtain ⟨n, hn⟩ : ∃ n : Nat, Int.fdiv r 78 % 13 = (n : Int) := ⟨_, (Int.toNat_of_nonneg m0).symm⟩
      refine ⟨_, rfl, _, _, rfl, rfl, ⟨by decide, by decide⟩, .inl ⟨_, rfl, _, _, rfl, rfl, by show (0 : Int) < 13; decide, (n : Int), congrArg (fun z => [V.int z]) hn, by omega, by omega, fun D nD => ?_⟩⟩
      rw [Int.toNat_natCast]
      refine lc_it (walk_range (lo := 0) (n := n)) (fun j H' => ∃ c : List Nat, c.length = j ∧ (∀ (i x : Nat), c[i]? = some x → x ≤ i) ∧ Acc H6 D (nv c) H') ⟨[], rfl, fun i x h => by simp at h, Acc.start nD⟩ (fun _ _ _ _ => trivial) ?_ ?_
      · rintro j y H7 H8 hj ⟨c, hcl, hcb, ac⟩ ⟨rfl, ey⟩
        obtain rfl : y = V.int (j : Nat) := by
          rw [ey]
          show V.int (0 + (j : Int)) = _
          rw [Int.zero_add]
        refine ⟨rfl, iteT (B := ∃ c : List Nat, c.length = j + 1 ∧ (∀ (i x : Nat), c[i]? = some x → x ≤ i) ∧ Acc H6 D (nv c) H8) ?_⟩
        refine ⟨_, rfl, _, rfl, _, _, rfl, rfl, ?_⟩
        refine ⟨a, ns, 20 + j, congrArg (fun z => [V.ref a, V.int z]) (by omega), (s6.trans ac.s).seq ha, h63, by omega, fun H9 r2 s9 => ?_⟩
        refine .inl ⟨_, rfl, _, rfl, _, _, rfl, rfl, _, _, rfl, rfl, by omega, ?_⟩
        have k0 := Int.emod_nonneg r2 (show ((j : Nat) : Int) + 1 ≠ 0 by omega)
        have k1 := Int.emod_lt_of_pos r2 (show (0 : Int) < (j : Nat) + 1 by omega)
        obtain ⟨z, hz⟩ : ∃ z : Nat, r2 % ((j : Nat) + 1) = (z : Int) := ⟨_, (Int.toNat_of_nonneg k0).symm⟩
        have ac9 := ac.same s9
        refine ⟨nv c, ac9.a, by rw [nv_len, sizeLine_eq]; omega, c ++ [z], by rw [List.length_append, hcl]; rfl, fun i x h => ?_, ?_⟩
        · by_cases hi : i < c.length
          · rw [List.getElem?_append_left hi] at h
            exact hcb i x h
          · rw [List.getElem?_append_right (by omega)] at h
            by_cases h0 : i = c.length
            · subst h0
              rw [Nat.sub_self] at h
              cases h
              omega
            · rw [List.getElem?_eq_none (by rw [List.length_singleton]; omega)] at h
              cases h
        · have e : nv c ++ [V.int (r2 % ((j : Int) + 1))] = nv (c ++ [z]) := by rw [hz, appN]
          show Acc H6 D (nv (c ++ [z])) (upd H9 D (.lst (nv c ++ [V.int (r2 % ((j : Int) + 1))])))
          rw [e]
          exact ac9.push
      · rintro H7 ⟨c, hcl, hcb, ac⟩
        exact ⟨D, _, rfl, .inl ⟨SqL.of ac.a, fun u nu => ⟨u, c, rfl, (s6.trans ac.s).trans (Same.up nu), (Same.up nu) _ _ (ac.s _ _ et), upd_same, by omega, hcb⟩⟩⟩
    rintro σ' H7 ⟨u, c, rfl, s7, et7, eu, hcl, hcb⟩
    obtain ⟨co1, co2⟩ := code_order hcb
    refine ⟨fun σ' H' => σ' = [some (.ref a), some (.int r), some (.int m), some (.ref t), some (.ref u), some (.ref q5), none] ∧ Same H7 H', ?_, ?_⟩
    · refine ⟨_, rfl, t, p, rfl, .inr et7, hpl, hpp, fun H8 d1 s8 ed1 => ?_⟩
      refine ⟨_, rfl, t, p, rfl, s8 _ _ et7, hpl, fun H9 d2 s9 ed2 => ?_⟩
      refine ⟨_, _, nv_tup K (s9 _ _ ed1), nv_tup K ed2, ints_shT _, ints_shT _, _, rfl, ?_⟩
      rw [rowD_same]
      refine iteF ?_
      have s79 := s8.trans s9
      refine ⟨_, rfl, t, p, rfl, s79 _ _ et7, hpl, fun H10 d3 s10 ed3 => ?_⟩
      refine ⟨d3, codeL p, rfl, .inr ed3, by rw [codeL_len]; exact hpl, codeL_le p, fun H11 t5 s11 et5 => ?_⟩
      rw [order_code hpp] at et5
      have s711 := (s79.trans s10).trans s11
      refine ⟨_, rfl, _, _, nv_tup K et5, nv_tup K (s711 _ _ et7), ints_shT _, ints_shT _, _, rfl, ?_⟩
      rw [rowD_same]
      exact iteF ⟨rfl, s711⟩
    rintro σ' H8 ⟨rfl, s8⟩
    have eu8 := s8 _ _ eu
    have hol : (orderL c).length ≤ 12 := by rw [orderL_len]; exact hcl
    refine ⟨_, rfl, u, c, rfl, .inr eu8, hcl, hcb, fun H9 o1 s9 eo1 => ?_⟩
    refine ⟨o1, orderL c, rfl, .inr eo1, hol, by rw [orderL_len]; exact co2, fun H10 d s10 ed => ?_⟩
    rw [co1] at ed
    refine ⟨_, rfl, _, _, nv_tup K ed, nv_tup K (s10 _ _ (s9 _ _ eu8)), ints_shT _, ints_shT _, ?_⟩
    rw [rowD_same]
    refine ⟨true, rfl, iteT ?_⟩
    have eu10 := s10 _ _ (s9 _ _ eu8)
    refine ⟨_, rfl, u, c, rfl, .inr eu10, hcl, hcb, fun H11 o2 s11 eo2 => ?_⟩
    refine ⟨o2, natB (orderL c), rfl, SqT.of eo2, fun ns' l1 perm srt n1 => ?_⟩
    have sl := Same.up (o := .lst (ns'.map V.int)) n1
    refine ⟨_, rfl, u, _, rfl, .inr (SqT.of (sl _ _ (s11 _ _ eu10))), _, rfl, ?_⟩
    rw [nv_len]
    refine ⟨RgOk.of_le (by omega) (by omega) (by omega) (by omega), fun l2 n2 => ?_⟩
    rw [nv_rg]
    have hsr : ns' = natB (List.range c.length) := by
      have := full_srt (p := orderL c) (by rw [orderL_len]; exact co2) perm srt
      rw [orderL_len] at this
      exact this
    subst hsr
    refine ⟨_, _, .lst (SqL.of ((Same.up n2) _ _ upd_same)) (ints_dp _ _ _), .lst (SqL.of upd_same) (ints_dp _ _ _), shaped_ints _, shaped_ints _, ?_⟩
    rw [refl_of (shaped_ints _)]
    exact q _
theorem b_law (T : Tx K mg A) : L2.Binds K A.d_law ["script"] [] := T.F_law.binds fun _ _ _ _ _ _ us hl => match us, hl with | [_], _ => rfl

end
end Tw

set_option Elab.async false
set_option linter.all false
set_option maxRecDepth 100000
set_option maxHeartbeats 2000000
namespace Tw
open PySem PySem.Spec PyProof.Rows L2
theorem kit_no {K : PySem.W.Frag} {C : Addr} {t : String} (hc : PySem.W.isClsIn K C = true) (ht : PySem.W.typeIn K (.ref C) = some (.type "type")) (hs : PySem.W.subIn K (.type t) (.ref C) = some false) : PySem.W.kitOne K (.type t) (.ref C) = some false := by
  unfold PySem.W.kitOne PySem.W.kitCls
  have h1 : (PySem.W.clsIn K C).isSome = true := hc
  simp only [h1, ht, hs, beq_self_eq_true, Bool.and_self, if_true]
  rfl
theorem all_mk {l : PySem.W.OpenLaw} {w : World} {K : PySem.W.Frag} {h : Heap} {mg : Str → Option Value} (X : K.In h) (G : h.Ns mainGlobals mg) {fa   f_is_integer f_is_integer_from f_is_full f_is_code f_order_code f_order_by f__law_number f__law_orders f__law_due f__law_codes f__law_drawn f_law : Addr} {od_is_integer an_is_integer : Option Addr} {sl_is_integer : Array (Option Value)} {oc_is_integer kV_is_integer dc_is_integer pm_is_integer cd_is_integer ct_is_integer : Value} {od_is_integer_from an_is_integer_from : Option Addr} {sl_is_integer_from : Array (Option Value)} {oc_is_integer_from kV_is_integer_from dc_is_integer_from pm_is_integer_from cd_is_integer_from ct_is_integer_from : Value} {od_is_full an_is_full : Option Addr} {sl_is_full : Array (Option Value)} {oc_is_full kV_is_full dc_is_full pm_is_full cd_is_full ct_is_full : Value} {od_is_code an_is_code : Option Addr} {sl_is_code : Array (Option Value)} {oc_is_code kV_is_code dc_is_code pm_is_code cd_is_code ct_is_code : Value} {od_order_code an_order_code : Option Addr} {sl_order_code : Array (Option Value)} {oc_order_code kV_order_code dc_order_code pm_order_code cd_order_code ct_order_code : Value} {od_order_by an_order_by : Option Addr} {sl_order_by : Array (Option Value)} {oc_order_by kV_order_by dc_order_by pm_order_by cd_order_by ct_order_by : Value} {od__law_number an__law_number : Option Addr} {sl__law_number : Array (Option Value)} {oc__law_number kV__law_number dc__law_number pm__law_number cd__law_number ct__law_number : Value} {od__law_orders an__law_orders : Option Addr} {sl__law_orders : Array (Option Value)} {oc__law_orders kV__law_orders dc__law_orders pm__law_orders cd__law_orders ct__law_orders : Value} {od__law_due an__law_due : Option Addr} {sl__law_due : Array (Option Value)} {oc__law_due kV__law_due dc__law_due pm__law_due cd__law_due ct__law_due : Value} {od__law_codes an__law_codes : Option Addr} {sl__law_codes : Array (Option Value)} {oc__law_codes kV__law_codes dc__law_codes pm__law_codes cd__law_codes ct__law_codes : Value} {od__law_drawn an__law_drawn : Option Addr} {sl__law_drawn : Array (Option Value)} {oc__law_drawn kV__law_drawn dc__law_drawn pm__law_drawn cd__law_drawn ct__law_drawn : Value} {od_law an_law : Option Addr} {sl_law : Array (Option Value)} {oc_law kV_law dc_law pm_law cd_law ct_law : Value}
    (hfa : mg "law" = some (.ref fa))
    (a_is_integer : PySem.W.nsIn K mainGlobals "is_integer" = some (some (.ref f_is_integer)))
    (l_is_integer : K.lookup f_is_integer = some ⟨oc_is_integer, od_is_integer, .func (PySem.W.fnOf "is_integer" "is_integer" (defArgs s_is_integer) (defBody s_is_integer) (defScope s_is_integer) .none kV_is_integer dc_is_integer pm_is_integer an_is_integer cd_is_integer ct_is_integer), sl_is_integer⟩)
    (c_is_integer : PySem.W.codeIn K cd_is_integer "is_integer" = true)
    (k_is_integer : PySem.W.keepIn K (.ref f_is_integer) = true)
    (a_is_integer_from : PySem.W.nsIn K mainGlobals "is_integer_from" = some (some (.ref f_is_integer_from)))
    (l_is_integer_from : K.lookup f_is_integer_from = some ⟨oc_is_integer_from, od_is_integer_from, .func (PySem.W.fnOf "is_integer_from" "is_integer_from" (defArgs s_is_integer_from) (defBody s_is_integer_from) (defScope s_is_integer_from) .none kV_is_integer_from dc_is_integer_from pm_is_integer_from an_is_integer_from cd_is_integer_from ct_is_integer_from), sl_is_integer_from⟩)
    (c_is_integer_from : PySem.W.codeIn K cd_is_integer_from "is_integer_from" = true)
    (k_is_integer_from : PySem.W.keepIn K (.ref f_is_integer_from) = true)
    (a_is_full : PySem.W.nsIn K mainGlobals "is_full" = some (some (.ref f_is_full)))
    (l_is_full : K.lookup f_is_full = some ⟨oc_is_full, od_is_full, .func (PySem.W.fnOf "is_full" "is_full" (defArgs s_is_full) (defBody s_is_full) (defScope s_is_full) .none kV_is_full dc_is_full pm_is_full an_is_full cd_is_full ct_is_full), sl_is_full⟩)
    (c_is_full : PySem.W.codeIn K cd_is_full "is_full" = true)
    (k_is_full : PySem.W.keepIn K (.ref f_is_full) = true)
    (a_is_code : PySem.W.nsIn K mainGlobals "is_code" = some (some (.ref f_is_code)))
    (l_is_code : K.lookup f_is_code = some ⟨oc_is_code, od_is_code, .func (PySem.W.fnOf "is_code" "is_code" (defArgs s_is_code) (defBody s_is_code) (defScope s_is_code) .none kV_is_code dc_is_code pm_is_code an_is_code cd_is_code ct_is_code), sl_is_code⟩)
    (c_is_code : PySem.W.codeIn K cd_is_code "is_code" = true)
    (k_is_code : PySem.W.keepIn K (.ref f_is_code) = true)
    (a_order_code : PySem.W.nsIn K mainGlobals "order_code" = some (some (.ref f_order_code)))
    (l_order_code : K.lookup f_order_code = some ⟨oc_order_code, od_order_code, .func (PySem.W.fnOf "order_code" "order_code" (defArgs s_order_code) (defBody s_order_code) (defScope s_order_code) .none kV_order_code dc_order_code pm_order_code an_order_code cd_order_code ct_order_code), sl_order_code⟩)
    (c_order_code : PySem.W.codeIn K cd_order_code "order_code" = true)
    (k_order_code : PySem.W.keepIn K (.ref f_order_code) = true)
    (a_order_by : PySem.W.nsIn K mainGlobals "order_by" = some (some (.ref f_order_by)))
    (l_order_by : K.lookup f_order_by = some ⟨oc_order_by, od_order_by, .func (PySem.W.fnOf "order_by" "order_by" (defArgs s_order_by) (defBody s_order_by) (defScope s_order_by) .none kV_order_by dc_order_by pm_order_by an_order_by cd_order_by ct_order_by), sl_order_by⟩)
    (c_order_by : PySem.W.codeIn K cd_order_by "order_by" = true)
    (k_order_by : PySem.W.keepIn K (.ref f_order_by) = true)
    (a__law_number : PySem.W.nsIn K mainGlobals "_law_number" = some (some (.ref f__law_number)))
    (l__law_number : K.lookup f__law_number = some ⟨oc__law_number, od__law_number, .func (PySem.W.fnOf "_law_number" "_law_number" (defArgs s__law_number) (defBody s__law_number) (defScope s__law_number) .none kV__law_number dc__law_number pm__law_number an__law_number cd__law_number ct__law_number), sl__law_number⟩)
    (c__law_number : PySem.W.codeIn K cd__law_number "_law_number" = true)
    (k__law_number : PySem.W.keepIn K (.ref f__law_number) = true)
    (a__law_orders : PySem.W.nsIn K mainGlobals "_law_orders" = some (some (.ref f__law_orders)))
    (l__law_orders : K.lookup f__law_orders = some ⟨oc__law_orders, od__law_orders, .func (PySem.W.fnOf "_law_orders" "_law_orders" (defArgs s__law_orders) (defBody s__law_orders) (defScope s__law_orders) .none kV__law_orders dc__law_orders pm__law_orders an__law_orders cd__law_orders ct__law_orders), sl__law_orders⟩)
    (c__law_orders : PySem.W.codeIn K cd__law_orders "_law_orders" = true)
    (k__law_orders : PySem.W.keepIn K (.ref f__law_orders) = true)
    (a__law_due : PySem.W.nsIn K mainGlobals "_law_due" = some (some (.ref f__law_due)))
    (l__law_due : K.lookup f__law_due = some ⟨oc__law_due, od__law_due, .func (PySem.W.fnOf "_law_due" "_law_due" (defArgs s__law_due) (defBody s__law_due) (defScope s__law_due) .none kV__law_due dc__law_due pm__law_due an__law_due cd__law_due ct__law_due), sl__law_due⟩)
    (c__law_due : PySem.W.codeIn K cd__law_due "_law_due" = true)
    (k__law_due : PySem.W.keepIn K (.ref f__law_due) = true)
    (a__law_codes : PySem.W.nsIn K mainGlobals "_law_codes" = some (some (.ref f__law_codes)))
    (l__law_codes : K.lookup f__law_codes = some ⟨oc__law_codes, od__law_codes, .func (PySem.W.fnOf "_law_codes" "_law_codes" (defArgs s__law_codes) (defBody s__law_codes) (defScope s__law_codes) .none kV__law_codes dc__law_codes pm__law_codes an__law_codes cd__law_codes ct__law_codes), sl__law_codes⟩)
    (c__law_codes : PySem.W.codeIn K cd__law_codes "_law_codes" = true)
    (k__law_codes : PySem.W.keepIn K (.ref f__law_codes) = true)
    (a__law_drawn : PySem.W.nsIn K mainGlobals "_law_drawn" = some (some (.ref f__law_drawn)))
    (l__law_drawn : K.lookup f__law_drawn = some ⟨oc__law_drawn, od__law_drawn, .func (PySem.W.fnOf "_law_drawn" "_law_drawn" (defArgs s__law_drawn) (defBody s__law_drawn) (defScope s__law_drawn) .none kV__law_drawn dc__law_drawn pm__law_drawn an__law_drawn cd__law_drawn ct__law_drawn), sl__law_drawn⟩)
    (c__law_drawn : PySem.W.codeIn K cd__law_drawn "_law_drawn" = true)
    (k__law_drawn : PySem.W.keepIn K (.ref f__law_drawn) = true)
    (a_law : PySem.W.nsIn K mainGlobals "law" = some (some (.ref f_law)))
    (l_law : K.lookup f_law = some ⟨oc_law, od_law, .func (PySem.W.fnOf "law" "law" (defArgs s_law) (defBody s_law) (defScope s_law) .none kV_law dc_law pm_law an_law cd_law ct_law), sl_law⟩)
    (c_law : PySem.W.codeIn K cd_law "law" = true)
    (k_law : PySem.W.keepIn K (.ref f_law) = true)
    {tc_MOST_ITEMS : Tok}
    (q_MOST_ITEMS : PySem.W.nsIn K mainGlobals "MOST_ITEMS" = some (some (.int 12 tc_MOST_ITEMS)))
    (z_isinstance : PySem.W.nsIn K mainGlobals "isinstance" = some none)
    (z_int : PySem.W.nsIn K mainGlobals "int" = some none)
    (z_bool : PySem.W.nsIn K mainGlobals "bool" = some none)
    (z_len : PySem.W.nsIn K mainGlobals "len" = some none)
    (z_tuple : PySem.W.nsIn K mainGlobals "tuple" = some none)
    (z_list : PySem.W.nsIn K mainGlobals "list" = some none)
    (z_range : PySem.W.nsIn K mainGlobals "range" = some none)
    (z_enumerate : PySem.W.nsIn K mainGlobals "enumerate" = some none)
    (z_reversed : PySem.W.nsIn K mainGlobals "reversed" = some none)
    (z_sum : PySem.W.nsIn K mainGlobals "sum" = some none)
    (z_all : PySem.W.nsIn K mainGlobals "all" = some none)
    (z_sorted : PySem.W.nsIn K mainGlobals "sorted" = some none)
    : ∃ fd : FuncData, (∀ (s : Shared) (v : Value), BindsTo s fd ⟨[v], []⟩ [("script", v)]) ∧ ∀ base : Heap, K.In base → base.Ns mainGlobals mg → FnOk l.prog w K mg base CX0 5 fa fd ["script"] (spLaw K) := by
  have e := hfa.symm.trans (PySem.W.mg_of X G a_law)
  cases e
  let A : Ad := { f_is_integer := f_is_integer, d_is_integer := (PySem.W.fnOf "is_integer" "is_integer" (defArgs s_is_integer) (defBody s_is_integer) (defScope s_is_integer) .none kV_is_integer dc_is_integer pm_is_integer an_is_integer cd_is_integer ct_is_integer), f_is_integer_from := f_is_integer_from, d_is_integer_from := (PySem.W.fnOf "is_integer_from" "is_integer_from" (defArgs s_is_integer_from) (defBody s_is_integer_from) (defScope s_is_integer_from) .none kV_is_integer_from dc_is_integer_from pm_is_integer_from an_is_integer_from cd_is_integer_from ct_is_integer_from), f_is_full := f_is_full, d_is_full := (PySem.W.fnOf "is_full" "is_full" (defArgs s_is_full) (defBody s_is_full) (defScope s_is_full) .none kV_is_full dc_is_full pm_is_full an_is_full cd_is_full ct_is_full), f_is_code := f_is_code, d_is_code := (PySem.W.fnOf "is_code" "is_code" (defArgs s_is_code) (defBody s_is_code) (defScope s_is_code) .none kV_is_code dc_is_code pm_is_code an_is_code cd_is_code ct_is_code), f_order_code := f_order_code, d_order_code := (PySem.W.fnOf "order_code" "order_code" (defArgs s_order_code) (defBody s_order_code) (defScope s_order_code) .none kV_order_code dc_order_code pm_order_code an_order_code cd_order_code ct_order_code), f_order_by := f_order_by, d_order_by := (PySem.W.fnOf "order_by" "order_by" (defArgs s_order_by) (defBody s_order_by) (defScope s_order_by) .none kV_order_by dc_order_by pm_order_by an_order_by cd_order_by ct_order_by), f__law_number := f__law_number, d__law_number := (PySem.W.fnOf "_law_number" "_law_number" (defArgs s__law_number) (defBody s__law_number) (defScope s__law_number) .none kV__law_number dc__law_number pm__law_number an__law_number cd__law_number ct__law_number), f__law_orders := f__law_orders, d__law_orders := (PySem.W.fnOf "_law_orders" "_law_orders" (defArgs s__law_orders) (defBody s__law_orders) (defScope s__law_orders) .none kV__law_orders dc__law_orders pm__law_orders an__law_orders cd__law_orders ct__law_orders), f__law_due := f__law_due, d__law_due := (PySem.W.fnOf "_law_due" "_law_due" (defArgs s__law_due) (defBody s__law_due) (defScope s__law_due) .none kV__law_due dc__law_due pm__law_due an__law_due cd__law_due ct__law_due), f__law_codes := f__law_codes, d__law_codes := (PySem.W.fnOf "_law_codes" "_law_codes" (defArgs s__law_codes) (defBody s__law_codes) (defScope s__law_codes) .none kV__law_codes dc__law_codes pm__law_codes an__law_codes cd__law_codes ct__law_codes), f__law_drawn := f__law_drawn, d__law_drawn := (PySem.W.fnOf "_law_drawn" "_law_drawn" (defArgs s__law_drawn) (defBody s__law_drawn) (defScope s__law_drawn) .none kV__law_drawn dc__law_drawn pm__law_drawn an__law_drawn cd__law_drawn ct__law_drawn), f_law := fa, d_law := (PySem.W.fnOf "law" "law" (defArgs s_law) (defBody s_law) (defScope s_law) .none kV_law dc_law pm_law an_law cd_law ct_law) }
  have T : Tx K mg A := {
    F_is_integer := (fun_mk (st := s_is_integer) l_is_integer c_is_integer k_is_integer)
    m_is_integer := PySem.W.mg_of X G a_is_integer
    F_is_integer_from := (fun_mk (st := s_is_integer_from) l_is_integer_from c_is_integer_from k_is_integer_from)
    m_is_integer_from := PySem.W.mg_of X G a_is_integer_from
    F_is_full := (fun_mk (st := s_is_full) l_is_full c_is_full k_is_full)
    m_is_full := PySem.W.mg_of X G a_is_full
    F_is_code := (fun_mk (st := s_is_code) l_is_code c_is_code k_is_code)
    m_is_code := PySem.W.mg_of X G a_is_code
    F_order_code := (fun_mk (st := s_order_code) l_order_code c_order_code k_order_code)
    m_order_code := PySem.W.mg_of X G a_order_code
    F_order_by := (fun_mk (st := s_order_by) l_order_by c_order_by k_order_by)
    m_order_by := PySem.W.mg_of X G a_order_by
    F__law_number := (fun_mk (st := s__law_number) l__law_number c__law_number k__law_number)
    m__law_number := PySem.W.mg_of X G a__law_number
    F__law_orders := (fun_mk (st := s__law_orders) l__law_orders c__law_orders k__law_orders)
    m__law_orders := PySem.W.mg_of X G a__law_orders
    F__law_due := (fun_mk (st := s__law_due) l__law_due c__law_due k__law_due)
    m__law_due := PySem.W.mg_of X G a__law_due
    F__law_codes := (fun_mk (st := s__law_codes) l__law_codes c__law_codes k__law_codes)
    m__law_codes := PySem.W.mg_of X G a__law_codes
    F__law_drawn := (fun_mk (st := s__law_drawn) l__law_drawn c__law_drawn k__law_drawn)
    m__law_drawn := PySem.W.mg_of X G a__law_drawn
    F_law := (fun_mk (st := s_law) l_law c_law k_law)
    m_law := PySem.W.mg_of X G a_law
    c_MOST_ITEMS := .inr ⟨_, PySem.W.mg_of X G q_MOST_ITEMS⟩
    g_isinstance := PySem.W.mg_none_of X G z_isinstance
    g_int := PySem.W.mg_none_of X G z_int
    g_bool := PySem.W.mg_none_of X G z_bool
    g_len := PySem.W.mg_none_of X G z_len
    g_tuple := PySem.W.mg_none_of X G z_tuple
    g_list := PySem.W.mg_none_of X G z_list
    g_range := PySem.W.mg_none_of X G z_range
    g_enumerate := PySem.W.mg_none_of X G z_enumerate
    g_reversed := PySem.W.mg_none_of X G z_reversed
    g_sum := PySem.W.mg_none_of X G z_sum
    g_all := PySem.W.mg_none_of X G z_all
    g_sorted := PySem.W.mg_none_of X G z_sorted
  }
  exact ⟨A.d_law, fun s v => .of_eq rfl, fun base _ _ => ok_law T⟩
theorem walk {l : PySem.W.OpenLaw} {q : Program} {loose : List Str} {XP : (Str → Option Value) → Heap → Prop} {YP : World → Heap → Prop} {d : DefRec} {K : Params → PySem.W.Frag} (hn : l.most = some 63) (hdf : d.params.defaults = [])
    (hY : ∀ (w : World) (h : Heap), YP w h → (K w.params).In h)
    (F : ∀ (w : World) (mg : Str → Option Value) (fa : Addr) (h : Heap), (K w.params).In h → h.Ns mainGlobals mg → mg d.name = some (.ref fa) →
      ∃ fd : FuncData, (∀ (s : Shared) (u : Value), BindsTo s fd ⟨[u], []⟩ [("script", u)]) ∧ ∀ base : Heap, (K w.params).In base → base.Ns mainGlobals mg → FnOk l.prog w (K w.params) mg base CX0 5 fa fd ["script"] (spLaw (K w.params))) :
    PySem.W.WalkO q loose XP YP l.row.toRowW d [] (fun f vs => PySem.call f vs) :=
  L2.walk_of (n := 63) (k := 5) (x := "script") (CX := fun _ => CX0) (sp := fun w => spLaw (K w.params)) hn (by decide) hdf ⟨rfl, by decide, by decide⟩ hY F (fun _ _ a ns hl _ hS => ⟨a, ns, rfl, hS, hl, fun _ => rfl⟩) fun _ _ _ _ _ z => z
end Tw

open PySem PySem.W PyProof.Rows in
set_option maxRecDepth 100000 in
set_option maxHeartbeats 0 in
theorem PySem.Challenge.cw_heaprows_k59_whole_codes_holds : PySem.Challenge.rw_heaprows_k59_whole_codes.Holds := by
  w_on; o_law; k_head; (case hw => w_witness2)
  k_fill
  refine Tw.walk (l := PySem.Challenge.rw_heaprows_k59_whole_codes) rfl rfl (fun w h Y => PySem.W.kIn_of Y) ?F
  case F =>
    intro w mg fa h KX G hmg
    refine' Tw.all_mk KX G hmg ?a_is_integer ?l_is_integer ?c_is_integer ?k_is_integer ?a_is_integer_from ?l_is_integer_from ?c_is_integer_from ?k_is_integer_from ?a_is_full ?l_is_full ?c_is_full ?k_is_full ?a_is_code ?l_is_code ?c_is_code ?k_is_code ?a_order_code ?l_order_code ?c_order_code ?k_order_code ?a_order_by ?l_order_by ?c_order_by ?k_order_by ?a__law_number ?l__law_number ?c__law_number ?k__law_number ?a__law_orders ?l__law_orders ?c__law_orders ?k__law_orders ?a__law_due ?l__law_due ?c__law_due ?k__law_due ?a__law_codes ?l__law_codes ?c__law_codes ?k__law_codes ?a__law_drawn ?l__law_drawn ?c__law_drawn ?k__law_drawn ?a_law ?l_law ?c_law ?k_law ?q_MOST_ITEMS ?z_isinstance ?z_int ?z_bool ?z_len ?z_tuple ?z_list ?z_range ?z_enumerate ?z_reversed ?z_sum ?z_all ?z_sorted
    (case a_is_integer => k_is)
    (case l_is_integer => k_is)
    (case c_is_integer => k_is)
    (case k_is_integer => k_is)
    (case a_is_integer_from => k_is)
    (case l_is_integer_from => k_is)
    (case c_is_integer_from => k_is)
    (case k_is_integer_from => k_is)
    (case a_is_full => k_is)
    (case l_is_full => k_is)
    (case c_is_full => k_is)
    (case k_is_full => k_is)
    (case a_is_code => k_is)
    (case l_is_code => k_is)
    (case c_is_code => k_is)
    (case k_is_code => k_is)
    (case a_order_code => k_is)
    (case l_order_code => k_is)
    (case c_order_code => k_is)
    (case k_order_code => k_is)
    (case a_order_by => k_is)
    (case l_order_by => k_is)
    (case c_order_by => k_is)
    (case k_order_by => k_is)
    (case a__law_number => k_is)
    (case l__law_number => k_is)
    (case c__law_number => k_is)
    (case k__law_number => k_is)
    (case a__law_orders => k_is)
    (case l__law_orders => k_is)
    (case c__law_orders => k_is)
    (case k__law_orders => k_is)
    (case a__law_due => k_is)
    (case l__law_due => k_is)
    (case c__law_due => k_is)
    (case k__law_due => k_is)
    (case a__law_codes => k_is)
    (case l__law_codes => k_is)
    (case c__law_codes => k_is)
    (case k__law_codes => k_is)
    (case a__law_drawn => k_is)
    (case l__law_drawn => k_is)
    (case c__law_drawn => k_is)
    (case k__law_drawn => k_is)
    (case a_law => k_is)
    (case l_law => k_is)
    (case c_law => k_is)
    (case k_law => k_is)
    (case q_MOST_ITEMS => k_is)
    (case z_isinstance => k_is)
    (case z_int => k_is)
    (case z_bool => k_is)
    (case z_len => k_is)
    (case z_tuple => k_is)
    (case z_list => k_is)
    (case z_range => k_is)
    (case z_enumerate => k_is)
    (case z_reversed => k_is)
    (case z_sum => k_is)
    (case z_all => k_is)
    (case z_sorted => k_is)
