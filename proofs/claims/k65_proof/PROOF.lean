import PyProof.Rows.All
import Wide.All
import OpenK.AllK
import Wide.FinOn
import HandS.ForMost
import HandS.TupAny
import HandS.IsInst
import HandS.Flow
import HandS.Wide
import HandS.Deep
import PyProof.P3In
import HandS.Dict
import HandS.Text
import KE.SortData
import HandS.RaiseMore
import HandS.TupLen
import HandS.Style
import HandS.More
import HandS.Comp
import HandS.Iter
import HandS.Zip
import HandS.DictComp
import HandS.Ends
import HandS.NoneIn
import PyProof.StrOps2
import KE.DataEq
import PyProof.ReprLen
import HandS.Conv
import HandS.Walk
import HandS.Set
import HandS.Strs
import HandS.SetFor
import HandS.List
import PySem.Challenge.RW_staffhome_k65_drivers_and_what_they_hear
set_option Elab.async false
set_option linter.all false
set_option maxRecDepth 100001
set_option maxHeartbeats 4000001
/-! XA1: data, modes, what a value shows in a heap (Ow), and how that survives. -/
namespace Xa
open PySem PySem.Spec
open PyProof.Rows L2

/-- data: what a value shows -/
inductive D where
  | non | bl (b : Bool) | int (i : Int) | str (x : Str)
  | tup (l : List D) | lst (l : List D) | dic (l : List (D × D))
  | exc (c : Str) (l : List D)

/-- modes: the bag; nothing that can change; lists that nobody changes any more; owned: its own list or dict, its items of mode m -/
inductive Md where
  | bag | imm | frz | own (m : Md)
  deriving DecidableEq

def kD : Key → D
  | .inl i => .int i
  | .inr x => .str x
def kT (l : List Key) : D := .tup (l.map kD)

mutual
/-- v shows d in H, in mode m; A: the owned addresses, in O; nothing else of O is passed -/
inductive Ow (K : PySem.W.Frag) (b : Addr) (O : Addr → Prop) (H : Hp) : Md → V → D → List Addr → Prop
  | bag : Ow K b O H .bag (.ref b) .non []
  | non {m : Md} : m ≠ .bag → Ow K b O H m .non .non []
  | bl {m : Md} {k : Bool} : m ≠ .bag → Ow K b O H m (.bl k) (.bl k) []
  | int {m : Md} {i : Int} : m ≠ .bag → Ow K b O H m (.int i) (.int i) []
  | str {m : Md} {x : Str} : m ≠ .bag → Ow K b O H m (.str x) (.str x) []
  | tup {m : Md} {a : Addr} {vs : List V} {ds : List D} {A : List Addr} : m ≠ .bag → H a = some (.tup vs) → OwL K b O H m vs ds A → Ow K b O H m (.ref a) (.tup ds) A
  | lstF {a : Addr} {vs : List V} {ds : List D} : ¬ O a → Rd H a (.lst vs) → OwL K b O H .frz vs ds [] → Ow K b O H .frz (.ref a) (.lst ds) []
  | lstO {m : Md} {a : Addr} {vs : List V} {ds : List D} {A : List Addr} : m ≠ .bag → O a → H a = some (.lst vs) → OwL K b O H m vs ds A → Ow K b O H (.own m) (.ref a) (.lst ds) (a :: A)
  | dkF {a : Addr} {es : List (Key × V)} {ds : List D} : ¬ O a → Rd H a (.dK es) → (es = [] → H a = some (.dK [])) → OwL K b O H .frz (es.map (·.2)) ds [] → Ow K b O H .frz (.ref a) (.dic ((es.map fun p => kD p.1).zip ds)) []
  | dkO {m : Md} {a : Addr} {es : List (Key × V)} {ds : List D} {A : List Addr} : m ≠ .bag → O a → H a = some (.dK es) → OwL K b O H m (es.map (·.2)) ds A → Ow K b O H (.own m) (.ref a) (.dic ((es.map fun p => kD p.1).zip ds)) (a :: A)
  | dtF {a : Addr} {es : List (List Key × V)} {ds : List D} : ¬ O a → Rd H a (.dT es) → (es = [] → H a = some (.dT [])) → OwL K b O H .frz (es.map (·.2)) ds [] → Ow K b O H .frz (.ref a) (.dic ((es.map fun p => kT p.1).zip ds)) []
  | dtO {m : Md} {a : Addr} {es : List (List Key × V)} {ds : List D} {A : List Addr} : m ≠ .bag → O a → H a = some (.dT es) → OwL K b O H m (es.map (·.2)) ds A → Ow K b O H (.own m) (.ref a) (.dic ((es.map fun p => kT p.1).zip ds)) (a :: A)
inductive OwL (K : PySem.W.Frag) (b : Addr) (O : Addr → Prop) (H : Hp) : Md → List V → List D → List Addr → Prop
  | nil {m : Md} : OwL K b O H m [] [] []
  | cons {m : Md} {v : V} {vs : List V} {d : D} {ds : List D} {A B : List Addr} : Ow K b O H m v d A → OwL K b O H m vs ds B → OwL K b O H m (v :: vs) (d :: ds) (A ++ B)
end

section
variable {K : PySem.W.Frag} {b c : Addr} {O O' : Addr → Prop} {H H' : Hp}

/-- one induction over both -/
theorem Ow.rec2 {P : Md → V → D → List Addr → Prop} {PL : Md → List V → List D → List Addr → Prop}
    (bag : P .bag (.ref b) .non []) (non : ∀ {m}, m ≠ Md.bag → P m .non .non []) (bl : ∀ {m k}, m ≠ Md.bag → P m (.bl k) (.bl k) []) (int : ∀ {m i}, m ≠ Md.bag → P m (.int i) (.int i) []) (str : ∀ {m x}, m ≠ Md.bag → P m (.str x) (.str x) [])
    (tup : ∀ {m a vs ds A}, m ≠ Md.bag → H a = some (.tup vs) → OwL K b O H m vs ds A → PL m vs ds A → P m (.ref a) (.tup ds) A)
    (lstF : ∀ {a vs ds}, ¬ O a → Rd H a (.lst vs) → OwL K b O H .frz vs ds [] → PL .frz vs ds [] → P .frz (.ref a) (.lst ds) [])
    (lstO : ∀ {m a vs ds A}, m ≠ Md.bag → O a → H a = some (.lst vs) → OwL K b O H m vs ds A → PL m vs ds A → P (.own m) (.ref a) (.lst ds) (a :: A))
    (dkF : ∀ {a} {es : List (Key × V)} {ds}, ¬ O a → Rd H a (.dK es) → (es = [] → H a = some (.dK [])) → OwL K b O H .frz (es.map (·.2)) ds [] → PL .frz (es.map (·.2)) ds [] → P .frz (.ref a) (.dic ((es.map fun p => kD p.1).zip ds)) [])
    (dkO : ∀ {m a} {es : List (Key × V)} {ds A}, m ≠ Md.bag → O a → H a = some (.dK es) → OwL K b O H m (es.map (·.2)) ds A → PL m (es.map (·.2)) ds A → P (.own m) (.ref a) (.dic ((es.map fun p => kD p.1).zip ds)) (a :: A))
    (dtF : ∀ {a} {es : List (List Key × V)} {ds}, ¬ O a → Rd H a (.dT es) → (es = [] → H a = some (.dT [])) → OwL K b O H .frz (es.map (·.2)) ds [] → PL .frz (es.map (·.2)) ds [] → P .frz (.ref a) (.dic ((es.map fun p => kT p.1).zip ds)) [])
    (dtO : ∀ {m a} {es : List (List Key × V)} {ds A}, m ≠ Md.bag → O a → H a = some (.dT es) → OwL K b O H m (es.map (·.2)) ds A → PL m (es.map (·.2)) ds A → P (.own m) (.ref a) (.dic ((es.map fun p => kT p.1).zip ds)) (a :: A))
    (nil : ∀ {m}, PL m [] [] []) (cons : ∀ {m v vs d ds A B}, Ow K b O H m v d A → OwL K b O H m vs ds B → P m v d A → PL m vs ds B → PL m (v :: vs) (d :: ds) (A ++ B)) :
    (∀ {m v d A}, Ow K b O H m v d A → P m v d A) ∧ (∀ {m vs ds A}, OwL K b O H m vs ds A → PL m vs ds A) := by
  refine ⟨fun h => ?_, fun h => ?_⟩
  · exact Ow.rec (motive_1 := fun m v d A _ => P m v d A) (motive_2 := fun m vs ds A _ => PL m vs ds A) bag non bl int str tup lstF lstO dkF dkO dtF dtO nil cons h
  · exact OwL.rec (motive_1 := fun m v d A _ => P m v d A) (motive_2 := fun m vs ds A _ => PL m vs ds A) bag non bl int str tup lstF lstO dkF dkO dtF dtO nil cons h

/-- all but c stays; c is of O, it is no tuple and not of A -/
structure Off (O : Addr → Prop) (c : Addr) (H H' : Hp) : Prop where
  oc : O c
  nt : ∀ vs, ¬ Rd H c (.tup vs)
  keep : ∀ a o, a ≠ c → H a = some o → H' a = some o
theorem Off.rd {a : Addr} {u : HO} (x : Off O c H H') (h : Rd H a u) (n : a ≠ c) : Rd H' a u := by
  rcases h with h | ⟨o, h⟩
  · exact .inl (x.keep a _ n h)
  · exact .inr ⟨o, x.keep a _ n h⟩
theorem Off.tup {a : Addr} {vs : List V} (x : Off O c H H') (h : H a = some (.tup vs)) : H' a = some (.tup vs) := x.keep a _ (fun e => x.nt vs (.inl (e ▸ h))) h
theorem Off.sqt {a : Addr} {vs : List V} (x : Off O c H H') (h : SqT K H a vs) : SqT K H' a vs := by
  rcases h with h | h
  · exact .inl (x.rd h fun e => x.nt vs (e ▸ h))
  · exact .inr h
theorem Ow.dom : (∀ {m v d A}, Ow K b O H m v d A → ∀ a ∈ A, O a ∧ H a ≠ none) ∧ (∀ {m vs ds A}, OwL K b O H m vs ds A → ∀ a ∈ A, O a ∧ H a ≠ none) := by
  have top : ∀ {x : Addr} {u : HO} {A : List Addr}, O x → H x = some u → (∀ a ∈ A, O a ∧ H a ≠ none) → ∀ a ∈ x :: A, O a ∧ H a ≠ none := fun {x u A} q r ih a z => by
    rcases List.mem_cons.mp z with e | z
    · subst e; exact ⟨q, by rw [r]; simp⟩
    · exact ih a z
  refine Ow.rec2 (P := fun _ _ _ A => ∀ a ∈ A, O a ∧ H a ≠ none) (PL := fun _ _ _ A => ∀ a ∈ A, O a ∧ H a ≠ none) ?_ ?_ ?_ ?_ ?_ ?_ ?_ ?_ ?_ ?_ ?_ ?_ ?_ ?_
  · exact fun a z => nomatch z
  · exact fun _ a z => nomatch z
  · exact fun _ a z => nomatch z
  · exact fun _ a z => nomatch z
  · exact fun _ a z => nomatch z
  · exact fun _ _ _ ih => ih
  · exact fun _ _ _ _ a z => nomatch z
  · exact fun _ q r _ ih => top q r ih
  · exact fun _ _ _ _ _ a z => nomatch z
  · exact fun _ q r _ ih => top q r ih
  · exact fun _ _ _ _ _ a z => nomatch z
  · exact fun _ q r _ ih => top q r ih
  · exact fun a z => nomatch z
  · exact fun _ _ i1 i2 a z => (List.mem_append.mp z).elim (i1 a) (i2 a)
theorem Ow.off (x : Off O c H H') (ho : ∀ a, H a ≠ none → (O' a ↔ O a)) :
    (∀ {m v d A}, Ow K b O H m v d A → c ∉ A → Ow K b O' H' m v d A) ∧ (∀ {m vs ds A}, OwL K b O H m vs ds A → c ∉ A → OwL K b O' H' m vs ds A) := by
  have nn : ∀ {a u}, Rd H a u → H a ≠ none := fun {a u} r e => by
    rcases r with r | ⟨o, r⟩ <;> (rw [e] at r; cases r)
  have nc : ∀ {a}, ¬ O a → a ≠ c := fun {a} n e => n (e ▸ x.oc)
  refine Ow.rec2 (P := fun m v d A => c ∉ A → Ow K b O' H' m v d A) (PL := fun m vs ds A => c ∉ A → OwL K b O' H' m vs ds A) ?_ ?_ ?_ ?_ ?_ ?_ ?_ ?_ ?_ ?_ ?_ ?_ ?_ ?_
  · exact fun _ => .bag
  · exact fun h _ => .non h
  · exact fun h _ => .bl h
  · exact fun h _ => .int h
  · exact fun h _ => .str h
  · exact fun h q _ ih n => .tup h (x.tup q) (ih n)
  · exact fun h r _ ih n => .lstF (fun z => h ((ho _ (nn r)).mp z)) (x.rd r (nc h)) (ih n)
  · exact fun h q r _ ih n => .lstO h ((ho _ (nn (.inl r))).mpr q) (x.keep _ _ (fun e => n (e ▸ List.mem_cons_self)) r) (ih fun z => n (List.mem_cons_of_mem _ z))
  · exact fun h r e _ ih n => .dkF (fun z => h ((ho _ (nn r)).mp z)) (x.rd r (nc h)) (fun z => x.keep _ _ (nc h) (e z)) (ih n)
  · exact fun h q r _ ih n => .dkO h ((ho _ (nn (.inl r))).mpr q) (x.keep _ _ (fun e => n (e ▸ List.mem_cons_self)) r) (ih fun z => n (List.mem_cons_of_mem _ z))
  · exact fun h r e _ ih n => .dtF (fun z => h ((ho _ (nn r)).mp z)) (x.rd r (nc h)) (fun z => x.keep _ _ (nc h) (e z)) (ih n)
  · exact fun h q r _ ih n => .dtO h ((ho _ (nn (.inl r))).mpr q) (x.keep _ _ (fun e => n (e ▸ List.mem_cons_self)) r) (ih fun z => n (List.mem_cons_of_mem _ z))
  · exact fun _ => .nil
  · exact fun _ _ i1 i2 n => .cons (i1 fun z => n (List.mem_append_left _ z)) (i2 fun z => n (List.mem_append_right _ z))
/-- less is of O -/
theorem Ow.shrink (ho : ∀ a, O' a → O a) :
    (∀ {m v d A}, Ow K b O H m v d A → (∀ a ∈ A, O' a) → Ow K b O' H m v d A) ∧ (∀ {m vs ds A}, OwL K b O H m vs ds A → (∀ a ∈ A, O' a) → OwL K b O' H m vs ds A) := by
  refine Ow.rec2 (P := fun m v d A => (∀ a ∈ A, O' a) → Ow K b O' H m v d A) (PL := fun m vs ds A => (∀ a ∈ A, O' a) → OwL K b O' H m vs ds A) ?_ ?_ ?_ ?_ ?_ ?_ ?_ ?_ ?_ ?_ ?_ ?_ ?_ ?_
  · exact fun _ => .bag
  · exact fun h _ => .non h
  · exact fun h _ => .bl h
  · exact fun h _ => .int h
  · exact fun h _ => .str h
  · exact fun h q _ ih n => .tup h q (ih n)
  · exact fun h r _ ih n => .lstF (fun z => h (ho _ z)) r (ih n)
  · exact fun h q r _ ih n => .lstO h (n _ List.mem_cons_self) r (ih fun a z => n a (List.mem_cons_of_mem _ z))
  · exact fun h r e _ ih n => .dkF (fun z => h (ho _ z)) r e (ih n)
  · exact fun h q r _ ih n => .dkO h (n _ List.mem_cons_self) r (ih fun a z => n a (List.mem_cons_of_mem _ z))
  · exact fun h r e _ ih n => .dtF (fun z => h (ho _ z)) r e (ih n)
  · exact fun h q r _ ih n => .dtO h (n _ List.mem_cons_self) r (ih fun a z => n a (List.mem_cons_of_mem _ z))
  · exact fun _ => .nil
  · exact fun _ _ i1 i2 n => .cons (i1 fun a z => n a (List.mem_append_left _ z)) (i2 fun a z => n a (List.mem_append_right _ z))
theorem OwL.consN {m : Md} {v : V} {vs : List V} {d : D} {ds : List D} (h : Ow K b O H m v d []) (t : OwL K b O H m vs ds []) : OwL K b O H m (v :: vs) (d :: ds) [] := OwL.cons (A := []) (B := []) h t
/-- what is owned is given up -/
theorem Ow.freeze (ho : ∀ a, O' a → O a) :
    (∀ {m v d A}, Ow K b O H m v d A → m ≠ .bag → (∀ a ∈ A, ¬ O' a) → Ow K b O' H .frz v d []) ∧ (∀ {m vs ds A}, OwL K b O H m vs ds A → m ≠ .bag → (∀ a ∈ A, ¬ O' a) → OwL K b O' H .frz vs ds []) := by
  refine Ow.rec2 (P := fun m v d A => m ≠ .bag → (∀ a ∈ A, ¬ O' a) → Ow K b O' H .frz v d []) (PL := fun m vs ds A => m ≠ .bag → (∀ a ∈ A, ¬ O' a) → OwL K b O' H .frz vs ds []) ?_ ?_ ?_ ?_ ?_ ?_ ?_ ?_ ?_ ?_ ?_ ?_ ?_ ?_
  · exact fun h => absurd rfl h
  · exact fun _ _ _ => .non (by decide)
  · exact fun _ _ _ => .bl (by decide)
  · exact fun _ _ _ => .int (by decide)
  · exact fun _ _ _ => .str (by decide)
  · exact fun h q _ ih _ n => .tup (by decide) q (ih h n)
  · exact fun h r _ ih _ n => .lstF (fun z => h (ho _ z)) r (ih (by decide) n)
  · exact fun h q r _ ih _ n => .lstF (n _ List.mem_cons_self) (.inl r) (ih h fun a z => n a (List.mem_cons_of_mem _ z))
  · exact fun h r e _ ih _ n => .dkF (fun z => h (ho _ z)) r e (ih (by decide) n)
  · exact fun h q r _ ih _ n => .dkF (n _ List.mem_cons_self) (.inl r) (fun z => z ▸ r) (ih h fun a z => n a (List.mem_cons_of_mem _ z))
  · exact fun h r e _ ih _ n => .dtF (fun z => h (ho _ z)) r e (ih (by decide) n)
  · exact fun h q r _ ih _ n => .dtF (n _ List.mem_cons_self) (.inl r) (fun z => z ▸ r) (ih h fun a z => n a (List.mem_cons_of_mem _ z))
  · exact fun _ _ => .nil
  · exact fun _ _ i1 i2 h n => .consN (i1 h fun a z => n a (List.mem_append_left _ z)) (i2 h fun a z => n a (List.mem_append_right _ z))
/-- frozen and unchangeable things own nothing -/
theorem Ow.noA : (∀ {m v d A}, Ow K b O H m v d A → m = .imm ∨ m = .frz ∨ m = .bag → A = []) ∧ (∀ {m vs ds A}, OwL K b O H m vs ds A → m = .imm ∨ m = .frz ∨ m = .bag → A = []) := by
  refine Ow.rec2 (P := fun m v d A => m = .imm ∨ m = .frz ∨ m = .bag → A = []) (PL := fun m vs ds A => m = .imm ∨ m = .frz ∨ m = .bag → A = []) ?_ ?_ ?_ ?_ ?_ ?_ ?_ ?_ ?_ ?_ ?_ ?_ ?_ ?_
  all_goals try (intros; simp_all; done)
/-- what cannot change is of every mode -/
theorem Ow.imm {m' : Md} (hm : m' ≠ .bag) : (∀ {m v d A}, Ow K b O H m v d A → m = .imm → Ow K b O' H m' v d []) ∧ (∀ {m vs ds A}, OwL K b O H m vs ds A → m = .imm → OwL K b O' H m' vs ds []) := by
  refine Ow.rec2 (P := fun m v d A => m = .imm → Ow K b O' H m' v d []) (PL := fun m vs ds A => m = .imm → OwL K b O' H m' vs ds []) ?_ ?_ ?_ ?_ ?_ ?_ ?_ ?_ ?_ ?_ ?_ ?_ ?_ ?_
  · exact fun h => nomatch h
  · exact fun _ _ => .non hm
  · exact fun _ _ => .bl hm
  · exact fun _ _ => .int hm
  · exact fun _ _ => .str hm
  · exact fun h q _ ih e => .tup hm q (ih e)
  · exact fun _ _ _ _ h => nomatch h
  · exact fun _ _ _ _ _ h => nomatch h
  · exact fun _ _ _ _ _ h => nomatch h
  · exact fun _ _ _ _ _ h => nomatch h
  · exact fun _ _ _ _ _ h => nomatch h
  · exact fun _ _ _ _ _ h => nomatch h
  · exact fun _ => .nil
  · exact fun _ _ i1 i2 e => .consN (i1 e) (i2 e)
/-- atoms -/
def isAtom : D → Bool
  | .non | .bl _ | .int _ | .str _ => true
  | _ => false
theorem Ow.atom {m m' : Md} {v : V} {d : D} {A : List Addr} (h : Ow K b O H m v d A) (hm : m ≠ .bag) (hm' : m' ≠ .bag) (ha : isAtom d = true) : Ow K b O' H m' v d [] := by
  cases h with
  | bag => exact absurd rfl hm
  | non _ => exact .non hm'
  | bl _ => exact .bl hm'
  | int _ => exact .int hm'
  | str _ => exact .str hm'
  | tup => cases ha
  | lstF => cases ha
  | lstO => cases ha
  | dkF => cases ha
  | dkO => cases ha
  | dtF => cases ha
  | dtO => cases ha
end
end Xa
/-! XA2: frames, the judgement EV of an expression, argument lists, operations by values. -/
namespace Xa
open PySem PySem.Spec
open PyProof.Rows L2

/-- the bag: a law's own list, or a dict from tuples to tuples of ints and texts -/
structure Bag where
  c0 : Int
  c1 : Int
  c2 : Int
  cells : List Int
  dd : Option (List (List Key × List Key)) := none
/-- an object that is no tuple -/
abbrev BO := { o : HO // (∀ vs, o ≠ .tup vs) ∧ ∀ p vs, o ≠ .frz p (.tup vs) }
/-- the entries of a dict show pairs of keys -/
inductive ShowT (H : Hp) : List (List Key × List Key) → List (List Key × V) → Prop
  | nil : ShowT H [] []
  | cons {k x : List Key} {a : Addr} {r : List (List Key × List Key)} {es : List (List Key × V)} : H a = some (.tup (x.map kV)) → ShowT H r es → ShowT H ((k, x) :: r) ((k, .ref a) :: es)
inductive Boxed (H : Hp) (l : Addr) (B : Bag) : HO → Prop
  | law : B.dd = none → Boxed H l B (.lst [.int B.c0, .int B.c1, .int B.c2, .ref l])
  | dic0 : B.dd = some [] → Boxed H l B (.dK [])
  | dic {kvs : List (List Key × List Key)} {es : List (List Key × V)} : B.dd = some kvs → ShowT H kvs es → Boxed H l B (.dT es)

/-- what stays through a frame: the bag's address, its list's, the heap and what is protected at the entry -/
structure Bg where
  b : Addr
  l : Addr
  H0 : Hp
  O0 : Addr → Prop
structure Bg.Ok (g : Bg) : Prop where
  b0 : g.O0 g.b
  l0 : g.O0 g.l
  lb : g.l ≠ g.b
  dom : ∀ a, g.O0 a → g.H0 a ≠ none

structure BagAt (b l : Addr) (H : Hp) (B : Bag) : Prop where
  bx : ∃ o, H b = some o ∧ Boxed H l B o
  cells : H l = some (.lst (B.cells.map .int))
theorem ShowT.keep {H H' : Hp} (k : ∀ a vs, H a = some (.tup vs) → H' a = some (.tup vs)) {kvs : List (List Key × List Key)} {es : List (List Key × V)} (h : ShowT H kvs es) : ShowT H' kvs es := by
  induction h with
  | nil => exact .nil
  | cons h1 _ ih => exact .cons (k _ _ h1) ih
theorem BagAt.box {b l : Addr} {H : Hp} {B : Bag} (h : BagAt b l H B) : ∃ vb : BO, H b = some vb.1 := by
  obtain ⟨o, e, x⟩ := h.bx
  refine ⟨⟨o, ?_⟩, e⟩
  cases x with
  | law _ => exact ⟨(fun vs z => nomatch z), fun p vs z => nomatch z⟩
  | dic0 _ => exact ⟨(fun vs z => nomatch z), fun p vs z => nomatch z⟩
  | dic _ _ => exact ⟨(fun vs z => nomatch z), fun p vs z => nomatch z⟩
theorem BagAt.ne {b l : Addr} {H : Hp} {B : Bag} (h : BagAt b l H B) : H b ≠ none := by
  obtain ⟨o, e, _⟩ := h.bx
  rw [e]; simp
theorem BagAt.noT {b l : Addr} {H : Hp} {B : Bag} (h : BagAt b l H B) {vs : List V} (z : H b = some (.tup vs)) : False := by
  obtain ⟨o, e⟩ := h.box
  rw [e] at z
  exact o.2.1 vs (Option.some.inj z)
theorem BagAt.law {b l : Addr} {H : Hp} {B : Bag} (h : BagAt b l H B) (e : B.dd = none) : H b = some (.lst [.int B.c0, .int B.c1, .int B.c2, .ref l]) := by
  obtain ⟨o, q, x⟩ := h.bx
  cases x with
  | law _ => exact q
  | dic0 z => rw [e] at z; cases z
  | dic z _ => rw [e] at z; cases z
theorem BagAt.keep {b l : Addr} {H H' : Hp} {B : Bag} (h : BagAt b l H B) (k : ∀ a vs, H a = some (.tup vs) → H' a = some (.tup vs)) (kb : H' b = H b) (kl : H' l = H l) : BagAt b l H' B := by
  obtain ⟨o, e, x⟩ := h.bx
  refine ⟨⟨o, kb.trans e, ?_⟩, kl.trans h.cells⟩
  cases x with
  | law z => exact .law z
  | dic0 z => exact .dic0 z
  | dic z t => exact .dic z (t.keep k)
theorem BagAt.grow {b l : Addr} {H H' : Hp} {B : Bag} (h : BagAt b l H B) (gr : ∀ a o, H a = some o → H' a = some o) : BagAt b l H' B := by
  obtain ⟨o, e, _⟩ := h.bx
  exact h.keep (fun a vs z => gr a _ z) ((gr _ _ e).trans e.symm) ((gr _ _ h.cells).trans h.cells.symm)

abbrev Gam := List (Option D)

structure Fr (K : PySem.W.Frag) (g : Bg) (O : Addr → Prop) (mu : List Md) (G : Gam) (σ : L2.St) (H : Hp) : Prop where
  ok : g.Ok
  sub : ∀ a, g.O0 a → O a
  dom : ∀ a, O a → H a ≠ none
  ext0 : ∀ a o, a ≠ g.b → g.H0 a = some o → H a = some o
  len : G.length = σ.length
  slots : ∃ As : Nat → List Addr, (∀ i, (As i).Nodup) ∧ (∀ i j, i ≠ j → ∀ a ∈ As i, a ∉ As j) ∧ (∀ i, ∀ a ∈ As i, O a ∧ ¬ g.O0 a ∧ g.H0 a = none) ∧
    ∀ (i : Nat) (d : D), G[i]? = some (some d) → ∃ m v, mu[i]? = some m ∧ σ[i]? = some (some v) ∧ Ow K g.b O H m v d (As i)

/-- what an expression's value is: of mode m; looked at alone; or borrowed: a variable's own -/
inductive Rm where | val (m : Md) | vw | bor (m : Md)
/-- looked at: a list or dict that may be somebody's own, its items frozen -/
inductive Vw (K : PySem.W.Frag) (b : Addr) (O : Addr → Prop) (H : Hp) : V → D → Prop
  | of {v : V} {d : D} : Ow K b O H .frz v d [] → Vw K b O H v d
  | kt {a : Addr} {vs : List V} {ds : List D} : SqT K H a vs → OwL K b O H .frz vs ds [] → Vw K b O H (.ref a) (.tup ds)
  | lst {a : Addr} {vs : List V} {ds : List D} : a ≠ b → H a = some (.lst vs) → OwL K b O H .frz vs ds [] → Vw K b O H (.ref a) (.lst ds)
  | dk {a : Addr} {es : List (Key × V)} {ds : List D} : a ≠ b → H a = some (.dK es) → OwL K b O H .frz (es.map (·.2)) ds [] → Vw K b O H (.ref a) (.dic ((es.map fun p => kD p.1).zip ds))
  | dt {a : Addr} {es : List (List Key × V)} {ds : List D} : a ≠ b → H a = some (.dT es) → OwL K b O H .frz (es.map (·.2)) ds [] → Vw K b O H (.ref a) (.dic ((es.map fun p => kT p.1).zip ds))
def Rw (K : PySem.W.Frag) (b : Addr) (O : Addr → Prop) (H : Hp) : Rm → V → D → List Addr → Prop
  | .val m, v, d, A => Ow K b O H m v d A
  | .vw, v, d, A => A = [] ∧ Vw K b O H v d
  | .bor m, v, d, A => A = [] ∧ ∃ A0, b ∉ A0 ∧ Ow K b O H m v d A0
inductive RwL (K : PySem.W.Frag) (b : Addr) (O : Addr → Prop) (H : Hp) : List Rm → List V → List D → List Addr → Prop
  | nil : RwL K b O H [] [] [] []
  | cons {r : Rm} {rs : List Rm} {v : V} {vs : List V} {d : D} {ds : List D} {A B : List Addr} : Rw K b O H r v d A → RwL K b O H rs vs ds B → RwL K b O H (r :: rs) (v :: vs) (d :: ds) (A ++ B)

abbrev orA (O : Addr → Prop) (A : List Addr) : Addr → Prop := fun a => O a ∨ a ∈ A

/-- the heap grows; nothing but b changes -/
abbrev Ext (b : Addr) (H H' : Hp) : Prop := ∀ a o, a ≠ b → H a = some o → H' a = some o
/-- nothing changes -/
abbrev Grow (H H' : Hp) : Prop := ∀ a o, H a = some o → H' a = some o

structure Got (K : PySem.W.Frag) (b l : Addr) (O : Addr → Prop) (H H' : Hp) (B' : Bag) (rm : Rm) (v : V) (d : D) (A : List Addr) : Prop where
  ext : Ext b H H'
  fresh : ∀ a ∈ A, H a = none
  nd : A.Nodup
  bag : BagAt b l H' B'
  rw_ : Rw K b (orA O A) H' rm v d A
structure GotL (K : PySem.W.Frag) (b l : Addr) (O : Addr → Prop) (H H' : Hp) (B' : Bag) (rms : List Rm) (vs : List V) (ds : List D) (A : List Addr) : Prop where
  ext : Ext b H H'
  fresh : ∀ a ∈ A, H a = none
  nd : A.Nodup
  bag : BagAt b l H' B'
  rw_ : RwL K b (orA O A) H' rms vs ds A

/-- an expression's meaning over data -/
abbrev DE := Gam → Bag → Option (D × Bag)
abbrev DA := Gam → Bag → Option (List D × Bag)
def tE (K : PySem.W.Frag) (mu : List Md) (rm : Rm) (f : DE) : TE := fun σ H Q => ∃ (g : Bg) (O : Addr → Prop) (G : Gam) (B : Bag) (d : D) (B' : Bag), Fr K g O mu G σ H ∧ BagAt g.b g.l H B ∧ f G B = some (d, B') ∧
  ∀ v H' A, Got K g.b g.l O H H' B' rm v d A → Q v H'
def EV (X : Cx) (mu : List Md) (e : Expr) (rm : Rm) (f : DE) : Prop := PE X e (tE X.K mu rm f)

theorem pe_imp {X : Cx} {e : Expr} {t t' : TE} (h : PE X e t) (w : ∀ σ H Q, t' σ H Q → t σ H Q) : PE X e t' := ⟨fun pins s σ H Q I q => h.run pins s σ H Q I (w σ H Q q)⟩
theorem pt_imp {X : Cx} {e : Expr} {t t' : TT} (h : PT X e t) (w : ∀ σ H Q, t' σ H Q → t σ H Q) : PT X e t' := ⟨fun pins s σ H Q I q => h.run pins s σ H Q I (w σ H Q q)⟩

section
variable {K : PySem.W.Frag} {b l c : Addr} {O O' : Addr → Prop} {H H' : Hp} {g : Bg} {mu : List Md} {G : Gam} {σ : L2.St} {B : Bag}

theorem BagAt.off (h : BagAt b l H B) (ob : O b) (x : Ext b H H') : Off O b H H' :=
  ⟨ob, fun vs r => by
    obtain ⟨o, e⟩ := h.box
    rcases r with r | ⟨p, r⟩
    · rw [e] at r; exact o.2.1 _ (Option.some.inj r)
    · rw [e] at r; exact o.2.2 _ _ (Option.some.inj r), x⟩
theorem Rw.off {rm : Rm} {v : V} {d : D} {A : List Addr} (x : Off O b H H') (ho : ∀ a, H a ≠ none → (O' a ↔ O a)) (h : Rw K b O H rm v d A) (n : b ∉ A) : Rw K b O' H' rm v d A := by
  cases rm with
  | val m => exact (Ow.off x ho).1 h n
  | vw =>
    refine ⟨h.1, ?_⟩
    have nil : ∀ {c : Addr}, c ∉ ([] : List Addr) := fun z => nomatch z
    cases h.2 with
    | of h => exact .of ((Ow.off x ho).1 h nil)
    | kt q t => exact .kt (x.sqt q) ((Ow.off x ho).2 t nil)
    | lst n r t => exact .lst n (x.keep _ _ n r) ((Ow.off x ho).2 t nil)
    | dk n r t => exact .dk n (x.keep _ _ n r) ((Ow.off x ho).2 t nil)
    | dt n r t => exact .dt n (x.keep _ _ n r) ((Ow.off x ho).2 t nil)
  | bor m =>
    obtain ⟨e, A0, n0, h⟩ := h
    exact ⟨e, A0, n0, (Ow.off x ho).1 h n0⟩
theorem RwL.off {rms : List Rm} {vs : List V} {ds : List D} {A : List Addr} (x : Off O b H H') (ho : ∀ a, H a ≠ none → (O' a ↔ O a)) (h : RwL K b O H rms vs ds A) (n : b ∉ A) : RwL K b O' H' rms vs ds A := by
  induction h with
  | nil => exact .nil
  | cons r _ ih => exact .cons (r.off x ho fun z => n (List.mem_append_left _ z)) (ih fun z => n (List.mem_append_right _ z))
theorem Fr.ob (F : Fr K g O mu G σ H) : O g.b := F.sub _ F.ok.b0
theorem Fr.ol (F : Fr K g O mu G σ H) : O g.l := F.sub _ F.ok.l0
/-- the frame behind an expression -/
theorem Fr.step {A : List Addr} (F : Fr K g O mu G σ H) (hb : BagAt g.b g.l H B) (x : Ext g.b H H') (fr : ∀ a ∈ A, H a = none) (dm : ∀ a ∈ A, H' a ≠ none) (hb' : H' g.b ≠ none) : Fr K g (orA O A) mu G σ H' := by
  obtain ⟨As, nd, dj, ss, sl⟩ := F.slots
  have hoff : Off O g.b H H' := hb.off F.ob x
  have eqv : ∀ a, H a ≠ none → (orA O A a ↔ O a) := fun a n => ⟨fun z => z.elim id fun m => absurd (fr a m) n, .inl⟩
  refine ⟨F.ok, fun a z => .inl (F.sub a z), fun a z => ?_, fun a o n e => x a o n (F.ext0 a o n e), F.len, As, nd, dj, fun i a m => ⟨.inl (ss i a m).1, (ss i a m).2⟩, fun i d e => ?_⟩
  · rcases z with z | z
    · by_cases e : a = g.b
      · subst e; exact hb'
      · cases q : H a with
        | none => exact absurd q (F.dom a z)
        | some o => rw [x a o e q]; simp
    · exact dm a z
  · obtain ⟨m, v, h1, h2, h3⟩ := sl i d e
    exact ⟨m, v, h1, h2, (Ow.off hoff eqv).1 h3 fun z => (ss i _ z).2.1 F.ok.b0⟩
theorem Rw.dom {rm : Rm} {v : V} {d : D} {A : List Addr} (h : Rw K b O H rm v d A) : ∀ a ∈ A, O a ∧ H a ≠ none := by
  cases rm with
  | val m => exact Ow.dom.1 h
  | vw => obtain ⟨e, _⟩ := h; subst e; exact fun a z => nomatch z
  | bor m => obtain ⟨e, _⟩ := h; subst e; exact fun a z => nomatch z
theorem RwL.dom {rms : List Rm} {vs : List V} {ds : List D} {A : List Addr} (h : RwL K b O H rms vs ds A) : ∀ a ∈ A, O a ∧ H a ≠ none := by
  induction h with
  | nil => exact (fun a z => nomatch z)
  | cons r _ ih => exact fun a z => (List.mem_append.mp z).elim (r.dom a) (ih a)
end

/-! ### argument lists -/
def dNil : DA := fun _ B => some ([], B)
def dCons (f : DE) (fs : DA) : DA := fun G B => (f G B).bind fun p => (fs G p.2).bind fun q => some (p.1 :: q.1, q.2)
/-- the reading of an argument list -/
def tL (K : PySem.W.Frag) (mu : List Md) (rms : List Rm) (fs : DA) : TA := fun σ H Q => ∃ (g : Bg) (O : Addr → Prop) (G : Gam) (B : Bag) (ds : List D) (B' : Bag), Fr K g O mu G σ H ∧ BagAt g.b g.l H B ∧ fs G B = some (ds, B') ∧
  ∀ vs H' A, GotL K g.b g.l O H H' B' rms vs ds A → Q vs H'
theorem pa_imp {X : Cx} {es : List Expr} {t t' : TA} (h : PA X es t) (w : ∀ σ H Q, t' σ H Q → t σ H Q) : PA X es t' := ⟨fun pos pins s σ H Q I q => h.run pos pins s σ H Q I (w σ H Q q)⟩
def AV (X : Cx) (mu : List Md) (es : List Expr) (rms : List Rm) (fs : DA) : Prop := PA X es (tL X.K mu rms fs)

theorem tL_cons {K : PySem.W.Frag} {mu : List Md} {rm : Rm} {rms : List Rm} {f : DE} {fs : DA} : ∀ σ H Q, tL K mu (rm :: rms) (dCons f fs) σ H Q → tCons (tE K mu rm f) (tL K mu rms fs) σ H Q := by
  rintro σ H Q ⟨g, O, G, B, ds, B', F, hb, e, q⟩
  unfold dCons at e
  cases e1 : f G B with
  | none => rw [e1] at e; cases e
  | some p =>
    obtain ⟨d, B1⟩ := p
    rw [e1] at e
    cases e2 : fs G B1 with
    | none => simp [e2] at e
    | some p =>
      obtain ⟨ds', B2⟩ := p
      simp only [Option.bind_some, e2, Option.some.injEq, Prod.mk.injEq] at e
      obtain ⟨rfl, rfl⟩ := e
      refine ⟨g, O, G, B, d, B1, F, hb, e1, fun v H1 A G1 => ?_⟩
      have dmA : ∀ a ∈ A, H1 a ≠ none := fun a z => (G1.rw_.dom a z).2
      have F1 : Fr K g (orA O A) mu G σ H1 := F.step hb G1.ext G1.fresh dmA G1.bag.ne
      refine ⟨g, orA O A, G, B1, ds', B2, F1, G1.bag, e2, fun vs H2 A2 G2 => q _ _ (A ++ A2) ⟨fun a o n h => G2.ext a o n (G1.ext a o n h), fun a z => ?_, ?_, G2.bag, ?_⟩⟩
      · rcases List.mem_append.mp z with z | z
        · exact G1.fresh a z
        · cases h : H a with
          | none => rfl
          | some o =>
            by_cases eb : a = g.b
            · subst eb
              have := G2.fresh _ z
              exact (G1.bag.ne this).elim
            · have := G2.fresh a z
              rw [G1.ext a o eb h] at this; cases this
      · refine List.nodup_append.mpr ⟨G1.nd, G2.nd, fun a z c z' ee => ?_⟩
        subst ee
        exact dmA a z (G2.fresh a z')
      · have nb : g.b ∉ A := fun z => by
          have := G1.fresh _ z
          exact (hb.ne this).elim
        have hoff : Off (orA O A) g.b H1 H2 := G1.bag.off (.inl F.ob) G2.ext
        have r1 := G1.rw_.off (O' := orA O (A ++ A2)) hoff (fun a n => ⟨fun z => z.elim .inl fun m => (List.mem_append.mp m).elim .inr fun m => absurd (G2.fresh a m) n, fun z => z.elim .inl fun m => .inr (List.mem_append_left _ m)⟩) nb
        have eO : orA (orA O A) A2 = orA O (A ++ A2) := by
          funext a
          simp only [orA, List.mem_append, or_assoc]
        have r2 := G2.rw_
        rw [eO] at r2
        exact .cons r1 r2
theorem av_nil {X : Cx} {mu : List Md} : AV X mu [] [] dNil := pa_imp pa_nil fun σ H Q ⟨g, O, G, B, ds, B', F, hb, e, q⟩ => by
  have e' : ([], B) = (ds, B') := Option.some.inj e
  cases e'
  exact q [] H [] ⟨fun _ _ _ h => h, (fun a z => nomatch z), List.nodup_nil, hb, .nil⟩
theorem av_cons {X : Cx} {mu : List Md} {e : Expr} {es : List Expr} {rm : Rm} {rms : List Rm} {f : DE} {fs : DA} (h : EV X mu e rm f) (hs : AV X mu es rms fs) (hst : starEach (e :: es) X.env = (false, eval e X.env) :: starEach es X.env := by rfl) :
    AV X mu (e :: es) (rm :: rms) (dCons f fs) := pa_imp (pa_cons h hs hst) tL_cons

/-! ### operations, by values -/
/-- r: what a rule asks of the values; sem: what comes out, over data -/
def Opn (X : Cx) (r : List V → Hp → VK → Prop) (rms : List Rm) (rm : Rm) (sem : List D → Option D) : Prop :=
  ∀ (b : Addr) (O : Addr → Prop) (H : Hp) (A : List Addr) (vs : List V) (ds : List D) (d : D) (Q : VK), O b → (∃ vb : BO, H b = some vb.1) → (∀ a, orA O A a → H a ≠ none) → b ∉ A → A.Nodup → RwL X.K b (orA O A) H rms vs ds A → sem ds = some d →
    (∀ v H' A', Grow H H' → (∀ a ∈ A', (a ∈ A ∨ H a = none)) → A'.Nodup → Rw X.K b (orA O A') H' rm v d A' → Q v H') → r vs H Q
def dOp (sem : List D → Option D) (fs : DA) : DE := fun G B => (fs G B).bind fun p => (sem p.1).map fun d => (d, p.2)
theorem GotL.op {X : Cx} {r : List V → Hp → VK → Prop} {rms : List Rm} {rm : Rm} {sem : List D → Option D} (ho : Opn X r rms rm sem) {g : Bg} {O : Addr → Prop} {H H1 : Hp} {B' B : Bag} {vs : List V} {ds : List D} {A : List Addr} {d : D} {Q : VK} {mu : List Md} {G : Gam} {σ : L2.St}
    (F : Fr X.K g O mu G σ H) (hb : BagAt g.b g.l H B) (G1 : GotL X.K g.b g.l O H H1 B' rms vs ds A) (e : sem ds = some d) (q : ∀ v H' A', Got X.K g.b g.l O H H' B' rm v d A' → Q v H') : r vs H1 Q := by
  have dmA : ∀ a ∈ A, H1 a ≠ none := fun a z => (G1.rw_.dom a z).2
  have F1 : Fr X.K g (orA O A) mu G σ H1 := F.step hb G1.ext G1.fresh dmA G1.bag.ne
  have nb : g.b ∉ A := fun z => by
    have := G1.fresh _ z
    exact (hb.ne this).elim
  refine ho g.b O H1 A vs ds d Q F.ob G1.bag.box F1.dom nb G1.nd G1.rw_ e fun v H' A' gr fr nd' rr => q v H' A' ⟨fun a o n h => gr a o (G1.ext a o n h), fun a z => ?_, nd', G1.bag.grow gr, rr⟩
  rcases fr a z with z | z
  · exact G1.fresh a z
  · cases h : H a with
    | none => rfl
    | some o =>
      by_cases eb : a = g.b
      · subst eb
        exact (G1.bag.ne z).elim
      · rw [G1.ext a o eb h] at z; cases z
/-- an expression that is an operation over its arguments -/
theorem ev_app {X : Cx} {mu : List Md} {e : Expr} {t : TE} {r : List V → Hp → VK → Prop} {rms : List Rm} {rm : Rm} {sem : List D → Option D} {fs : DA} (hp : PE X e t) (ho : Opn X r rms rm sem)
    (ht : ∀ σ H Q, tL X.K mu rms fs σ H (fun vs H1 => r vs H1 Q) → t σ H Q) : EV X mu e rm (dOp sem fs) := pe_imp hp fun σ H Q ⟨g, O, G, B, d, B', F, hb, e, q⟩ => by
  refine ht σ H Q ?_
  unfold dOp at e
  cases e1 : fs G B with
  | none => rw [e1] at e; cases e
  | some p =>
    obtain ⟨ds, B1⟩ := p
    simp only [e1, Option.bind_some] at e
    cases e2 : sem ds with
    | none => rw [e2] at e; cases e
    | some d' =>
      rw [e2] at e
      have e' : (d', B1) = (d, B') := Option.some.inj e
      cases e'
      exact ⟨g, O, G, B, ds, _, F, hb, e1, fun vs H1 A G1 => G1.op ho F hb e2 q⟩
/-- .. of one, two, three expressions -/
theorem tL_one {K : PySem.W.Frag} {mu : List Md} {r1 : Rm} {f1 : DE} {σ : L2.St} {H : Hp} {R : List V → Hp → Prop} (h : tL K mu [r1] (dCons f1 dNil) σ H R) : tE K mu r1 f1 σ H fun x H1 => R [x] H1 := by
  have := tL_cons σ H R h
  obtain ⟨g, O, G, B, d, B', F, hb, e, q⟩ := this
  refine ⟨g, O, G, B, d, B', F, hb, e, fun v H' A G1 => ?_⟩
  obtain ⟨g2, O2, G2, B2, ds, B2', F2, hb2, e2, q2⟩ := q v H' A G1
  have e' : ([], B2) = (ds, B2') := Option.some.inj e2
  cases e'
  exact q2 [] H' [] ⟨fun _ _ _ h => h, (fun a z => nomatch z), List.nodup_nil, hb2, .nil⟩
theorem tE_mono {K : PySem.W.Frag} {mu : List Md} {rm : Rm} {f : DE} {σ : L2.St} {H : Hp} {Q Q' : VK} (h : tE K mu rm f σ H Q) (w : ∀ v H', Q v H' → Q' v H') : tE K mu rm f σ H Q' := by
  obtain ⟨g, O, G, B, d, B', F, hb, e, q⟩ := h
  exact ⟨g, O, G, B, d, B', F, hb, e, fun v H' A G1 => w _ _ (q v H' A G1)⟩
theorem tL_two {K : PySem.W.Frag} {mu : List Md} {r1 r2 : Rm} {f1 f2 : DE} {σ : L2.St} {H : Hp} {R : List V → Hp → Prop} (h : tL K mu [r1, r2] (dCons f1 (dCons f2 dNil)) σ H R) :
    tE K mu r1 f1 σ H fun x H1 => tE K mu r2 f2 σ H1 fun y H2 => R [x, y] H2 :=
  tE_mono (tL_cons σ H R h) fun v H1 h1 => tL_one (R := fun xs H2 => R (v :: xs) H2) h1
theorem tL_three {K : PySem.W.Frag} {mu : List Md} {r1 r2 r3 : Rm} {f1 f2 f3 : DE} {σ : L2.St} {H : Hp} {R : List V → Hp → Prop} (h : tL K mu [r1, r2, r3] (dCons f1 (dCons f2 (dCons f3 dNil))) σ H R) :
    tE K mu r1 f1 σ H fun x H1 => tE K mu r2 f2 σ H1 fun y H2 => tE K mu r3 f3 σ H2 fun z H3 => R [x, y, z] H3 :=
  tE_mono (tL_cons σ H R h) fun v H1 h1 => tL_two (R := fun xs H2 => R (v :: xs) H2) h1
end Xa
/-! XA3: names, constants, coercions, operators, comparisons, and/or/not, displays. -/
namespace Xa
open PySem PySem.Spec
open PyProof.Rows L2

abbrev fz : Rm := .val .frz
section
variable {K : PySem.W.Frag} {b l : Addr} {O O' : Addr → Prop} {H H' : Hp} {v : V}

theorem Ow.int_inv {m : Md} {i : Int} {A : List Addr} (h : Ow K b O H m v (.int i) A) : v = .int i := by cases h; rfl
theorem Vw.int_inv {i : Int} (h : Vw K b O H v (.int i)) : v = .int i := by cases h with | of h => cases h; rfl
theorem Vw.bl_inv {i : Bool} (h : Vw K b O H v (.bl i)) : v = .bl i := by cases h with | of h => cases h; rfl
theorem Vw.str_inv {i : Str} (h : Vw K b O H v (.str i)) : v = .str i := by cases h with | of h => cases h; rfl
theorem Vw.non_inv (h : Vw K b O H v .non) : v = .non := by cases h with | of h => cases h; rfl
theorem Ow.tupF_inv {ds : List D} {A : List Addr} (h : Ow K b O H .frz v (.tup ds) A) : ∃ a vs, v = .ref a ∧ H a = some (.tup vs) ∧ OwL K b O H .frz vs ds [] := by
  cases h with | tup _ q t => exact ⟨_, _, rfl, q, by have := Ow.noA.2 t (.inr (.inl rfl)); subst this; exact t⟩
theorem Vw.tup_inv {ds : List D} (h : Vw K b O H v (.tup ds)) : ∃ a vs, v = .ref a ∧ SqT K H a vs ∧ OwL K b O H .frz vs ds [] := by
  cases h with
  | of h => cases h with | tup _ q t => exact ⟨_, _, rfl, .inl (.inl q), t⟩
  | kt q t => exact ⟨_, _, rfl, q, t⟩
theorem Vw.lst_inv {ds : List D} (h : Vw K b O H v (.lst ds)) : ∃ a vs, v = .ref a ∧ Rd H a (.lst vs) ∧ OwL K b O H .frz vs ds [] := by
  cases h with
  | of h => cases h with | lstF _ q t => exact ⟨_, _, rfl, q, t⟩
  | lst n r t => exact ⟨_, _, rfl, .inl r, t⟩
theorem Ow.lstF_inv {ds : List D} {A : List Addr} (h : Ow K b O H .frz v (.lst ds) A) : ∃ a vs, v = .ref a ∧ ¬ O a ∧ Rd H a (.lst vs) ∧ OwL K b O H .frz vs ds [] := by
  cases h with | lstF n q t => exact ⟨_, _, rfl, n, q, t⟩
theorem OwL.len {m : Md} {vs : List V} {ds : List D} {A : List Addr} (h : OwL K b O H m vs ds A) : vs.length = ds.length := by
  have : ∀ (vs : List V) {ds : List D} {A : List Addr}, OwL K b O H m vs ds A → vs.length = ds.length := by
    intro vs
    induction vs with
    | nil => intro ds A h; cases h; rfl
    | cons x r ih => intro ds A h; cases h with | cons _ t => simp [ih t]
  exact this vs h
theorem OwL.cons_inv {m : Md} {v : V} {vs : List V} {ds : List D} {A : List Addr} (h : OwL K b O H m (v :: vs) ds A) : ∃ d ds' A1 A2, ds = d :: ds' ∧ A = A1 ++ A2 ∧ Ow K b O H m v d A1 ∧ OwL K b O H m vs ds' A2 := by
  cases h with | cons p q => exact ⟨_, _, _, _, rfl, rfl, p, q⟩
theorem OwL.consd_inv {m : Md} {vs : List V} {d : D} {ds : List D} {A : List Addr} (h : OwL K b O H m vs (d :: ds) A) : ∃ v vs' A1 A2, vs = v :: vs' ∧ A = A1 ++ A2 ∧ Ow K b O H m v d A1 ∧ OwL K b O H m vs' ds A2 := by
  cases h with | cons p q => exact ⟨_, _, _, _, rfl, rfl, p, q⟩
/-- items of frozen lists -/
theorem OwL.get {vs : List V} {ds : List D} (h : OwL K b O H .frz vs ds []) {i : Nat} {d : D} (e : ds[i]? = some d) : ∃ v, vs[i]? = some v ∧ Ow K b O H .frz v d [] := by
  have : ∀ (vs : List V) {ds : List D} {A : List Addr} (i : Nat) (d : D), OwL K b O H .frz vs ds A → ds[i]? = some d → ∃ v, vs[i]? = some v ∧ Ow K b O H .frz v d [] := by
    intro vs
    induction vs with
    | nil => intro ds A i d h e; cases h; simp at e
    | cons x r ih =>
      intro ds A i d h e
      obtain ⟨d0, ds', A1, A2, rfl, rfl, p, q⟩ := h.cons_inv
      cases i with
      | zero =>
        simp at e; subst e
        obtain rfl := Ow.noA.1 p (.inr (.inl rfl))
        exact ⟨x, rfl, p⟩
      | succ i =>
        obtain ⟨v, e1, e2⟩ := ih i d q (by simpa using e)
        exact ⟨v, by simpa using e1, e2⟩
  exact this vs i d h e
theorem OwL.app {m : Md} {vs ws : List V} {ds es : List D} {A B : List Addr} (h : OwL K b O H m vs ds A) (t : OwL K b O H m ws es B) : OwL K b O H m (vs ++ ws) (ds ++ es) (A ++ B) := by
  have : ∀ (vs : List V) {ds : List D} {A : List Addr}, OwL K b O H m vs ds A → OwL K b O H m (vs ++ ws) (ds ++ es) (A ++ B) := by
    intro vs
    induction vs with
    | nil => intro ds A h; cases h; exact t
    | cons x r ih =>
      intro ds A h
      obtain ⟨d0, ds', A1, A2, rfl, rfl, p, q⟩ := h.cons_inv
      rw [List.append_assoc]
      exact .cons p (ih q)
  exact this vs h
theorem OwL.appN {vs ws : List V} {ds es : List D} (h : OwL K b O H .frz vs ds []) (t : OwL K b O H .frz ws es []) : OwL K b O H .frz (vs ++ ws) (ds ++ es) [] := OwL.app (A := []) (B := []) h t
theorem OwL.takeN {vs : List V} {ds : List D} (h : OwL K b O H .frz vs ds []) (n : Nat) : OwL K b O H .frz (vs.take n) (ds.take n) [] := by
  have : ∀ (vs : List V) {ds : List D} {A : List Addr} (n : Nat), OwL K b O H .frz vs ds A → OwL K b O H .frz (vs.take n) (ds.take n) [] := by
    intro vs
    induction vs with
    | nil => intro ds A n h; cases h; simp; exact .nil
    | cons x r ih =>
      intro ds A n h
      obtain ⟨d0, ds', A1, A2, rfl, rfl, p, q⟩ := h.cons_inv
      obtain rfl := Ow.noA.1 p (.inr (.inl rfl))
      cases n with
      | zero => exact .nil
      | succ n => exact OwL.consN p (ih n q)
  exact this vs n h
theorem OwL.dropN {vs : List V} {ds : List D} (h : OwL K b O H .frz vs ds []) (n : Nat) : OwL K b O H .frz (vs.drop n) (ds.drop n) [] := by
  have : ∀ (vs : List V) {ds : List D} {A : List Addr} (n : Nat), OwL K b O H .frz vs ds A → OwL K b O H .frz (vs.drop n) (ds.drop n) [] := by
    intro vs
    induction vs with
    | nil => intro ds A n h; cases h; simp; exact .nil
    | cons x r ih =>
      intro ds A n h
      have hA : A = [] := Ow.noA.2 h (.inr (.inl rfl))
      subst hA
      obtain ⟨d0, ds', A1, A2, rfl, e, p, q⟩ := h.cons_inv
      cases n with
      | zero => exact h
      | succ n => exact ih n q
  exact this vs n h

theorem Rw.atomF {d : D} (h : Ow K b O H .imm v d []) : Rw K b O H fz v d [] := (Ow.imm (by decide)).1 h rfl

/-- behind a value that owns nothing -/
theorem Got.after {B B1 B2 : Bag} {H1 H2 : Hp} {rm : Rm} {d : D} {A : List Addr} (hb : BagAt b l H B) (x : Ext b H H1) (h1 : BagAt b l H1 B1) (G2 : Got K b l O H1 H2 B2 rm v d A) : Got K b l O H H2 B2 rm v d A := by
  refine ⟨fun a o n e => G2.ext a o n (x a o n e), fun a z => ?_, G2.nd, G2.bag, G2.rw_⟩
  cases q : H a with
  | none => rfl
  | some o =>
    have := G2.fresh a z
    by_cases e : a = b
    · exact (h1.ne (e ▸ this)).elim
    · rw [x a o e q] at this; cases this
theorem Fr.step0 {g : Bg} {mu : List Md} {G : Gam} {σ : L2.St} {B B1 : Bag} {H1 : Hp} (F : Fr K g O mu G σ H) (hb : BagAt g.b g.l H B) (x : Ext g.b H H1) (h1 : BagAt g.b g.l H1 B1) : Fr K g O mu G σ H1 := by
  have F1 := F.step (A := []) hb x (fun a z => nomatch z) (fun a z => nomatch z) h1.ne
  have e : orA O [] = O := by funext a; simp [orA]
  rw [e] at F1
  exact F1
end

/-! ### coercions -/
section
variable {X : Cx} {mu : List Md} {e : Expr} {f : DE}
theorem ev_frz {m : Md} (h : EV X mu e (.val m) f) (hm : m ≠ .bag := by decide) : EV X mu e fz f := pe_imp h fun σ H Q ⟨g, O, G, B, d, B', F, hb, e1, q⟩ =>
  ⟨g, O, G, B, d, B', F, hb, e1, fun v H' A Gt => q v H' [] ⟨Gt.ext, (fun a z => nomatch z), List.nodup_nil, Gt.bag, (Ow.freeze fun a z => z.elim .inl fun m => nomatch m).1 Gt.rw_ hm fun a m z => by
    rcases z with z | z
    · exact F.dom a z (Gt.fresh a m)
    · cases z⟩⟩
theorem ev_imm {m : Md} (h : EV X mu e (.val .imm) f) (hm : m ≠ .bag := by decide) : EV X mu e (.val m) f := pe_imp h fun σ H Q ⟨g, O, G, B, d, B', F, hb, e1, q⟩ =>
  ⟨g, O, G, B, d, B', F, hb, e1, fun v H' A Gt => q v H' [] ⟨Gt.ext, (fun a z => nomatch z), List.nodup_nil, Gt.bag, by
    have hA : A = [] := Ow.noA.1 Gt.rw_ (.inl rfl)
    exact (Ow.imm hm).1 Gt.rw_ rfl⟩⟩
theorem ev_vw (h : EV X mu e fz f) : EV X mu e .vw f := pe_imp h fun σ H Q ⟨g, O, G, B, d, B', F, hb, e1, q⟩ =>
  ⟨g, O, G, B, d, B', F, hb, e1, fun v H' A Gt => by
    have hA : A = [] := Ow.noA.1 Gt.rw_ (.inr (.inl rfl))
    subst hA
    exact q v H' [] ⟨Gt.ext, Gt.fresh, Gt.nd, Gt.bag, ⟨rfl, .of Gt.rw_⟩⟩⟩
/-- an atom is of every mode -/
def dAtom (f : DE) : DE := fun G B => (f G B).bind fun p => if isAtom p.1 = true then some p else none
theorem ev_atom {m m' : Md} (h : EV X mu e (.val m) f) (hm : m ≠ .bag := by decide) (hm' : m' ≠ .bag := by decide) : EV X mu e (.val m') (dAtom f) := pe_imp h fun σ H Q ⟨g, O, G, B, d, B', F, hb, e1, q⟩ => by
  unfold dAtom at e1
  cases e2 : f G B with
  | none => rw [e2] at e1; cases e1
  | some p =>
    rw [e2, Option.bind_some] at e1
    by_cases ha : isAtom p.1 = true
    · rw [if_pos ha] at e1
      cases e1
      exact ⟨g, O, G, B, d, B', F, hb, e2, fun v H' A Gt => q v H' [] ⟨Gt.ext, (fun a z => nomatch z), List.nodup_nil, Gt.bag, Ow.atom Gt.rw_ hm hm' ha⟩⟩
    · rw [if_neg ha] at e1; cases e1
/-- a comparison of meanings -/
theorem ev_eq {rm : Rm} {f' : DE} (h : EV X mu e rm f) (w : ∀ G B r, f' G B = some r → f G B = some r) : EV X mu e rm f' := pe_imp h fun σ H Q ⟨g, O, G, B, d, B', F, hb, e1, q⟩ => ⟨g, O, G, B, d, B', F, hb, w _ _ _ e1, q⟩

/-! ### names -/
def gat (G : Gam) (i : Nat) : Option D := (G[i]?).bind id
def dVar (i : Nat) : DE := fun G B => (gat G i).map fun d => (d, B)
theorem gat_some {G : Gam} {i : Nat} {d : D} (h : gat G i = some d) : G[i]? = some (some d) := by
  unfold gat at h
  cases e : G[i]? with
  | none =>
      rw [e] at h; cases h
  | some o => rw [e] at h; cases o with
    | none => cases h
    | some d' => cases h; rfl
theorem ev_name {i : Nat} {x : Str} {pos : Pos} {m : Md} (hp : PE X (.Name x pos) (tVar i)) (hm : mu[i]? = some m) (k : m = .imm ∨ m = .frz ∨ m = .bag := by decide) : EV X mu (.Name x pos) (.val m) (dVar i) := pe_imp hp fun σ H Q ⟨g, O, G, B, d, B', F, hb, e1, q⟩ => by
  unfold dVar at e1
  cases e2 : gat G i with
  | none => rw [e2] at e1; cases e1
  | some d0 =>
    rw [e2] at e1
    cases e1
    obtain ⟨As, nd, dj, ss, sl⟩ := F.slots
    obtain ⟨m', v, h1, h2, h3⟩ := sl i d (gat_some e2)
    rw [hm] at h1; cases h1
    have hA := Ow.noA.1 h3 k
    rw [hA] at h3
    have e : orA O [] = O := by funext a; simp [orA]
    exact ⟨v, h2, q v H [] ⟨fun _ _ _ h => h, (fun a z => nomatch z), List.nodup_nil, hb, by rw [e]; exact h3⟩⟩
/-- an own list or dict, looked at -/
theorem ev_own {i : Nat} {x : Str} {pos : Pos} {m : Md} (hp : PE X (.Name x pos) (tVar i)) (hm : mu[i]? = some (.own m)) (k : m = .imm ∨ m = .frz := by decide) (f : DE := fun G B => (gat G i).bind fun d => match d with | .lst _ => some (d, B) | .dic _ => some (d, B) | _ => none) (hf : f = (fun G B => (gat G i).bind fun d => match d with | .lst _ => some (d, B) | .dic _ => some (d, B) | _ => none) := by rfl) : EV X mu (.Name x pos) .vw f := pe_imp hp fun σ H Q ⟨g, O, G, B, d, B', F, hb, e1, q⟩ => by
  subst hf
  cases e2 : gat G i with
  | none => simp [e2] at e1
  | some d0 =>
    simp only [e2, Option.bind_some] at e1
    obtain ⟨As, nd, dj, ss, sl⟩ := F.slots
    obtain ⟨m', v, h1, h2, h3⟩ := sl i d0 (gat_some e2)
    rw [hm] at h1; cases h1
    have nb : ∀ {a : Addr}, a ∈ As i → a ≠ g.b := fun {a} z e => (ss i a z).2.1 (e ▸ F.ok.b0)
    have e : orA O [] = O := by funext a; simp [orA]
    have hfr : ∀ {vs : List V} {ds : List D} {A : List Addr}, OwL X.K g.b O H m vs ds A → OwL X.K g.b O H .frz vs ds [] := fun {vs ds A} h => by
      have hA := Ow.noA.2 h (k.elim .inl fun z => .inr (.inl z))
      subst hA
      rcases k with rfl | rfl
      · exact (Ow.imm (by decide)).2 h rfl
      · exact h
    have fin : ∀ {d : D}, Vw X.K g.b O H v d → (∀ v' H' A, Got X.K g.b g.l O H H' B Rm.vw v' d A → Q v' H') → ∃ v', σ[i]? = some (some v') ∧ Q v' H := fun {d} w q => ⟨v, h2, q v H [] ⟨fun _ _ _ h => h, (fun a z => nomatch z), List.nodup_nil, hb, by rw [e]; exact ⟨rfl, w⟩⟩⟩
    generalize hAs : As i = Ai at h3
    cases h3 with
    | non _ => simp at e1
    | bl _ => simp at e1
    | int _ => simp at e1
    | str _ => simp at e1
    | tup _ _ _ => simp at e1
    | lstO hm0 oa ha ht =>
      simp only [Option.some.injEq, Prod.mk.injEq] at e1
      obtain ⟨rfl, rfl⟩ := e1
      exact fin (.lst (nb (by rw [hAs]; exact List.mem_cons_self)) ha (hfr ht)) q
    | dkO hm0 oa ha ht =>
      simp only [Option.some.injEq, Prod.mk.injEq] at e1
      obtain ⟨rfl, rfl⟩ := e1
      exact fin (.dk (nb (by rw [hAs]; exact List.mem_cons_self)) ha (hfr ht)) q
    | dtO hm0 oa ha ht =>
      simp only [Option.some.injEq, Prod.mk.injEq] at e1
      obtain ⟨rfl, rfl⟩ := e1
      exact fin (.dt (nb (by rw [hAs]; exact List.mem_cons_self)) ha (hfr ht)) q
end
end Xa
/-! XA4: operators and comparisons by data. -/
namespace Xa
open PySem PySem.Spec
open PyProof.Rows L2

mutual
def py : D → PyData
  | .non => .none
  | .bl b => .bool b
  | .int i => .int i
  | .str x => .str x
  | .tup l => .tuple (pyL l)
  | .lst l => .list (pyL l)
  | .dic _ => .dict []
  | .exc _ _ => .dict []
def pyL : List D → List PyData
  | [] => []
  | x :: r => py x :: pyL r
end
def shp (d : D) : Bool := SeqAt.shaped (py d)

section
variable {K : PySem.W.Frag} {b l : Addr} {O O' : Addr → Prop} {H H' : Hp} {v : V}
theorem Ow.dp : (∀ {m v d A}, Ow K b O H m v d A → m ≠ .bag → PyData.canLay0 (py d) = true → Dp K H v (py d)) ∧ (∀ {m vs ds A}, OwL K b O H m vs ds A → m ≠ .bag → PyData.canLayAll0 (pyL ds) = true → DpAll K H vs (pyL ds)) := by
  refine Ow.rec2 (P := fun m v d A => m ≠ .bag → PyData.canLay0 (py d) = true → Dp K H v (py d)) (PL := fun m vs ds A => m ≠ .bag → PyData.canLayAll0 (pyL ds) = true → DpAll K H vs (pyL ds)) ?_ ?_ ?_ ?_ ?_ ?_ ?_ ?_ ?_ ?_ ?_ ?_ ?_ ?_
  · exact fun h => absurd rfl h
  · exact fun _ _ _ => .non
  · exact fun _ _ _ => .bl _
  · exact fun _ _ _ => .int _
  · exact fun _ _ _ => .str _
  · exact fun h q _ ih _ c => .tup (.inl (.inl q)) (ih h c)
  · exact fun h r _ ih _ c => .lst (.inl r) (ih (by decide) c)
  · exact fun h q r _ ih _ c => .lst (.inl (.inl r)) (ih h c)
  · intros; simp_all [py, PyData.canLay0]
  · intros; simp_all [py, PyData.canLay0]
  · intros; simp_all [py, PyData.canLay0]
  · intros; simp_all [py, PyData.canLay0]
  · exact fun _ _ => .nil
  · intro m v vs d ds A B _ _ i1 i2 h c
    have c' : (PyData.canLay0 (py d) && PyData.canLayAll0 (pyL ds)) = true := c
    obtain ⟨c1, c2⟩ := Bool.and_eq_true_iff.mp c'
    exact .cons (i1 h c1) (i2 h c2)
theorem Vw.dp {d : D} (h : Vw K b O H v d) (c : shp d = true) : Dp K H v (py d) := by
  have c' := SeqAt.canLay_of_shaped c
  cases h with
  | of h => exact Ow.dp.1 h (by decide) c'
  | kt q t => exact .tup q (Ow.dp.2 t (by decide) c')
  | lst n r t => exact .lst (.inl (.inl r)) (Ow.dp.2 t (by decide) c')
  | dk => simp [py, PyData.canLay0] at c'
  | dt => simp [py, PyData.canLay0] at c'
/-- an answer that is an atom -/
theorem Rw.int {i : Int} : Rw K b O H fz (.int i) (.int i) [] := Ow.int (by decide)
theorem Rw.bl {i : Bool} : Rw K b O H fz (.bl i) (.bl i) [] := Ow.bl (by decide)
theorem Rw.str {i : Str} : Rw K b O H fz (.str i) (.str i) [] := Ow.str (by decide)
theorem Rw.non : Rw K b O H fz .non .non [] := Ow.non (by decide)
theorem orN {O : Addr → Prop} : orA O [] = O := by funext a; simp [orA]
/-- what a new object changes: nothing -/
theorem grow_upd {p : Addr} {o : HO} (h : H p = none) : Grow H (upd H p o) := fun a u e => by rw [upd_ne (ne_of_none e h)]; exact e
/-- a frozen thing in a grown heap -/
theorem bo_nt {vb : BO} (hb : H b = some vb.1) (vs : List V) (r : Rd H b (.tup vs)) : False := by
  rcases r with r | ⟨p, r⟩
  · rw [hb] at r; exact vb.2.1 _ (Option.some.inj r)
  · rw [hb] at r; exact vb.2.2 _ _ (Option.some.inj r)
theorem Ow.grow {vb : BO} {m : Md} {d : D} {A : List Addr} (h : Ow K b O H m v d A) (ob : O b) (hb : H b = some vb.1) (x : Grow H H') (nb : b ∉ A) (ho : ∀ a, H a ≠ none → (O' a ↔ O a)) : Ow K b O' H' m v d A :=
  (Ow.off ⟨ob, bo_nt hb, fun a o _ e => x a o e⟩ ho).1 h nb
theorem OwL.grow {vb : BO} {m : Md} {vs : List V} {ds : List D} {A : List Addr} (h : OwL K b O H m vs ds A) (ob : O b) (hb : H b = some vb.1) (x : Grow H H') (nb : b ∉ A) (ho : ∀ a, H a ≠ none → (O' a ↔ O a)) : OwL K b O' H' m vs ds A :=
  (Ow.off ⟨ob, bo_nt hb, fun a o _ e => x a o e⟩ ho).2 h nb
/-- a new tuple, a new list of frozen items -/
theorem new_tup {vb : BO} {vs : List V} {ds : List D} {p : Addr} (ob : O b) (hb : H b = some vb.1) (hp : H p = none) (t : OwL K b O H .frz vs ds []) : Rw K b (orA O []) (upd H p (.tup vs)) fz (.ref p) (.tup ds) [] := by
  rw [orN]
  exact Ow.tup (by decide) upd_same (t.grow ob hb (grow_upd hp) (fun z => nomatch z) fun a _ => Iff.rfl)
theorem new_lstF {vb : BO} {vs : List V} {ds : List D} {p : Addr} (ob : O b) (hb : H b = some vb.1) (dm : ∀ a, O a → H a ≠ none) (hp : H p = none) (t : OwL K b O H .frz vs ds []) : Rw K b (orA O []) (upd H p (.lst vs)) fz (.ref p) (.lst ds) [] := by
  rw [orN]
  exact Ow.lstF (fun z => dm p z hp) (.inl upd_same) (t.grow ob hb (grow_upd hp) (fun z => nomatch z) fun a _ => Iff.rfl)
theorem new_lstO {vb : BO} {vs : List V} {ds : List D} {p : Addr} (ob : O b) (hb : H b = some vb.1) (hp : H p = none) (t : OwL K b O H .frz vs ds []) : Rw K b (orA O [p]) (upd H p (.lst vs)) (.val (.own .frz)) (.ref p) (.lst ds) [p] := by
  exact Ow.lstO (by decide) (.inr List.mem_cons_self) upd_same (t.grow ob hb (grow_upd hp) (fun z => nomatch z) fun a n => ⟨fun z => z.elim id fun m => absurd hp (by rw [← List.mem_singleton.mp m]; exact n), .inl⟩)
end

/-! ### operations of two -/
def rL1 (r : V → Hp → VK → Prop) : List V → Hp → VK → Prop := fun vs H Q => match vs with | [x] => r x H Q | _ => False
def rL2 (r : R2) : List V → Hp → VK → Prop := fun vs H Q => match vs with | [x, y] => r x y H Q | _ => False
def sem1 (f : D → Option D) : List D → Option D | [x] => f x | _ => none
def sem2 (f : D → D → Option D) : List D → Option D | [x, y] => f x y | _ => none
def d1 (f : D → Option D) (f1 : DE) : DE := fun G B => (f1 G B).bind fun p => (f p.1).map fun d => (d, p.2)
def d2 (f : D → D → Option D) (f1 f2 : DE) : DE := fun G B => (f1 G B).bind fun p => (f2 G p.2).bind fun q => (f p.1 q.1).map fun d => (d, q.2)
theorem d1_op {f : D → Option D} {f1 : DE} {G : Gam} {B : Bag} {r : D × Bag} (h : d1 f f1 G B = some r) : dOp (sem1 f) (dCons f1 dNil) G B = some r := by
  unfold d1 at h
  unfold dOp dCons dNil sem1
  cases e : f1 G B with
  | none => simp [e] at h
  | some p => simp [e] at h ⊢; exact h
theorem d2_op {f : D → D → Option D} {f1 f2 : DE} {G : Gam} {B : Bag} {r : D × Bag} (h : d2 f f1 f2 G B = some r) : dOp (sem2 f) (dCons f1 (dCons f2 dNil)) G B = some r := by
  unfold d2 at h
  unfold dOp dCons dNil sem2
  cases e : f1 G B with
  | none => simp [e] at h
  | some p =>
    cases e2 : f2 G p.2 with
    | none => simp [e, e2] at h
    | some q => simp [e, e2] at h ⊢; exact h
/-- an operation upon two things that are looked at -/
def Op2 (X : Cx) (r : R2) (rm : Rm) (f : D → D → Option D) : Prop :=
  ∀ (b : Addr) (O : Addr → Prop) (H : Hp) (x y : V) (dx dy d : D) (Q : VK) (vb : BO), O b → H b = some vb.1 → (∀ a, O a → H a ≠ none) → Vw X.K b O H x dx → Vw X.K b O H y dy → f dx dy = some d →
    (∀ v H' A', Grow H H' → (∀ a ∈ A', H a = none) → A'.Nodup → Rw X.K b (orA O A') H' rm v d A' → Q v H') → r x y H Q
def Op1 (X : Cx) (r : V → Hp → VK → Prop) (rm : Rm) (f : D → Option D) : Prop :=
  ∀ (b : Addr) (O : Addr → Prop) (H : Hp) (x : V) (dx d : D) (Q : VK) (vb : BO), O b → H b = some vb.1 → (∀ a, O a → H a ≠ none) → Vw X.K b O H x dx → f dx = some d →
    (∀ v H' A', Grow H H' → (∀ a ∈ A', H a = none) → A'.Nodup → Rw X.K b (orA O A') H' rm v d A' → Q v H') → r x H Q
/-- .. upon frozen things -/
def Op2F (X : Cx) (r : R2) (rm : Rm) (f : D → D → Option D) : Prop :=
  ∀ (b : Addr) (O : Addr → Prop) (H : Hp) (x y : V) (dx dy d : D) (Q : VK) (vb : BO), O b → H b = some vb.1 → (∀ a, O a → H a ≠ none) → Ow X.K b O H .frz x dx [] → Ow X.K b O H .frz y dy [] → f dx dy = some d →
    (∀ v H' A', Grow H H' → (∀ a ∈ A', H a = none) → A'.Nodup → Rw X.K b (orA O A') H' rm v d A' → Q v H') → r x y H Q
def Op1F (X : Cx) (r : V → Hp → VK → Prop) (rm : Rm) (f : D → Option D) : Prop :=
  ∀ (b : Addr) (O : Addr → Prop) (H : Hp) (x : V) (dx d : D) (Q : VK) (vb : BO), O b → H b = some vb.1 → (∀ a, O a → H a ≠ none) → Ow X.K b O H .frz x dx [] → f dx = some d →
    (∀ v H' A', Grow H H' → (∀ a ∈ A', H a = none) → A'.Nodup → Rw X.K b (orA O A') H' rm v d A' → Q v H') → r x H Q
section
variable {X : Cx} {mu : List Md} {a b c : Expr} {f1 f2 f3 : DE} {rm : Rm} {pos : Pos}
theorem Op2F.opn {r : R2} {f : D → D → Option D} (h : Op2F X r rm f) : Opn X (rL2 r) [fz, fz] rm (sem2 f) := by
  intro b O H A vs ds d Q ob hb dm nb nd hr hs q
  obtain ⟨vb, hb⟩ := hb
  cases hr with
  | cons h1 t =>
    cases t with
    | cons h2 t =>
      cases t
      obtain rfl := Ow.noA.1 h1 (.inr (.inl rfl))
      obtain rfl := Ow.noA.1 h2 (.inr (.inl rfl))
      simp only [List.append_nil, orN] at *
      exact h b O H _ _ _ _ d Q vb ob hb (fun a z => dm a (.inl z)) h1 h2 hs fun v H' A' g fr nd' rr => q v H' A' g (fun a z => .inr (fr a z)) nd' rr
theorem Op1F.opn {r : V → Hp → VK → Prop} {f : D → Option D} (h : Op1F X r rm f) : Opn X (rL1 r) [fz] rm (sem1 f) := by
  intro b O H A vs ds d Q ob hb dm nb nd hr hs q
  obtain ⟨vb, hb⟩ := hb
  cases hr with
  | cons h1 t =>
    cases t
    obtain rfl := Ow.noA.1 h1 (.inr (.inl rfl))
    simp only [List.append_nil, orN] at *
    exact h b O H _ _ d Q vb ob hb (fun a z => dm a (.inl z)) h1 hs fun v H' A' g fr nd' rr => q v H' A' g (fun a z => .inr (fr a z)) nd' rr
theorem ev_twoF {e : Expr} {r : R2} {f : D → D → Option D} (hp : PE X e (tOp r (tE X.K mu fz f1) (tE X.K mu fz f2))) (h : Op2F X r rm f) : EV X mu e rm (d2 f f1 f2) :=
  ev_eq (ev_app hp h.opn fun σ H Q q => tL_two q) fun G B r => d2_op
theorem ev_oneF {e : Expr} {r : V → Hp → VK → Prop} {f : D → Option D} (hp : PE X e (tUn r (tE X.K mu fz f1))) (h : Op1F X r rm f) : EV X mu e rm (d1 f f1) :=
  ev_eq (ev_app hp h.opn fun σ H Q q => tL_one q) fun G B r => d1_op
theorem Op2.opn {r : R2} {f : D → D → Option D} (h : Op2 X r rm f) : Opn X (rL2 r) [.vw, .vw] rm (sem2 f) := by
  intro b O H A vs ds d Q ob hb dm nb nd hr hs q
  obtain ⟨vb, hb⟩ := hb
  cases hr with
  | cons h1 t =>
    cases t with
    | cons h2 t =>
      cases t
      obtain ⟨rfl, h1⟩ := h1
      obtain ⟨rfl, h2⟩ := h2
      simp only [List.append_nil, orN] at *
      exact h b O H _ _ _ _ d Q vb ob hb (fun a z => dm a (.inl z)) h1 h2 hs fun v H' A' g fr nd' rr => q v H' A' g (fun a z => .inr (fr a z)) nd' rr
theorem Op1.opn {r : V → Hp → VK → Prop} {f : D → Option D} (h : Op1 X r rm f) : Opn X (rL1 r) [.vw] rm (sem1 f) := by
  intro b O H A vs ds d Q ob hb dm nb nd hr hs q
  obtain ⟨vb, hb⟩ := hb
  cases hr with
  | cons h1 t =>
    cases t
    obtain ⟨rfl, h1⟩ := h1
    simp only [List.append_nil, orN] at *
    exact h b O H _ _ d Q vb ob hb (fun a z => dm a (.inl z)) h1 hs fun v H' A' g fr nd' rr => q v H' A' g (fun a z => .inr (fr a z)) nd' rr
theorem ev_two {e : Expr} {r : R2} {f : D → D → Option D} (hp : PE X e (tOp r (tE X.K mu .vw f1) (tE X.K mu .vw f2))) (h : Op2 X r rm f) : EV X mu e rm (d2 f f1 f2) :=
  ev_eq (ev_app hp h.opn fun σ H Q q => tL_two q) fun G B r => d2_op
theorem ev_one {e : Expr} {r : V → Hp → VK → Prop} {f : D → Option D} (hp : PE X e (tUn r (tE X.K mu .vw f1))) (h : Op1 X r rm f) : EV X mu e rm (d1 f f1) :=
  ev_eq (ev_app hp h.opn fun σ H Q q => tL_one q) fun G B r => d1_op
theorem ev_bin {op : Operator} {r : R2} {f : D → D → Option D} (ho : OpR X (binaryOp op) r) (h : Op2 X r rm f) (ha : EV X mu a .vw f1) (hb : EV X mu b .vw f2) : EV X mu (.BinOp a op b pos) rm (d2 f f1 f2) := ev_two (pe_op ho ha hb) h
theorem ev_cmp {op : CmpOp} {r : R2} {f : D → D → Option D} (ho : OpR X (compareOp op) r) (h : Op2 X r rm f) (ha : EV X mu a .vw f1) (hb : EV X mu b .vw f2) (hm : behindInMarks op b = false) : EV X mu (.Compare a [op] [b] pos) rm (d2 f f1 f2) := ev_two (pe_cmpR ho ha hb hm) h

/-! the operators -/
def fAdd (x y : D) : Option D := match x, y with
  | .int i, .int j => some (.int (i + j))
  | .str s, .str t => if s.length + t.length ≤ sizeLine then some (.str (s ++ t)) else none
  | .tup s, .tup t => if s.length + t.length ≤ sizeLine then some (.tup (s ++ t)) else none
  | _, _ => none
def rAdd3 (K : PySem.W.Frag) : R2 := fun x y H Q => (∃ i j, x = .int i ∧ y = .int j ∧ Q (.int (i + j)) H) ∨ (∃ i j, x = .str i ∧ y = .str j ∧ i.length + j.length ≤ sizeLine ∧ Q (.str (i ++ j)) H) ∨ rCatA K x y H Q
theorem op_add3 : OpR X (binaryOp .Add) (rAdd3 X.K) := op_add.or (op_add_str.or op_catA)
theorem o_add : Op2F X (rAdd3 X.K) fz fAdd := by
  intro b O H x y dx dy d Q vb ob hb dm hx hy e q
  unfold fAdd at e
  split at e
  · cases hx; cases hy; cases e
    exact .inl ⟨_, _, rfl, rfl, q _ _ [] (fun _ _ h => h) (fun a z => nomatch z) List.nodup_nil .int⟩
  · cases hx; cases hy
    split at e <;> cases e
    rename_i hz
    exact .inr (.inl ⟨_, _, rfl, rfl, hz, q _ _ [] (fun _ _ h => h) (fun a z => nomatch z) List.nodup_nil .str⟩)
  · obtain ⟨p, vs, rfl, h1, t1⟩ := hx.tupF_inv
    obtain ⟨p', ws, rfl, h2, t2⟩ := hy.tupF_inv
    split at e <;> cases e
    rename_i hz
    refine .inr (.inr ⟨p, p', vs, ws, rfl, rfl, .inl (.inl h1), .inl (.inl h2), by rw [t1.len, t2.len]; exact hz, fun e => ?_, fun _ e => ?_, fun _ _ a na => ?_⟩)
    · subst e
      cases t1
      exact q _ _ [] (fun _ _ h => h) (fun a z => nomatch z) List.nodup_nil (by rw [orN]; exact .tup (by decide) h2 t2)
    · subst e
      cases t2
      exact q _ _ [] (fun _ _ h => h) (fun a z => nomatch z) List.nodup_nil (by rw [orN, List.append_nil]; exact .tup (by decide) h1 t1)
    · exact q _ _ [] (grow_upd na) (fun a z => nomatch z) List.nodup_nil (new_tup ob hb na (t1.appN t2))
  · cases e
theorem ev_add (ha : EV X mu a fz f1) (hb : EV X mu b fz f2) : EV X mu (.BinOp a .Add b pos) fz (d2 fAdd f1 f2) := ev_twoF (pe_op op_add3 ha hb) o_add
/-- whole numbers alone -/
def fI (g : Int → Int → Option Int) (x y : D) : Option D := match x, y with
  | .int i, .int j => (g i j).map .int
  | _, _ => none
theorem o_int {C : Int → Int → Prop} {g : Int → Int → V} {gi : Int → Int → Option Int} (h : ∀ i j k, gi i j = some k → C i j ∧ g i j = .int k) : Op2 X (rI C g) fz (fI gi) := by
  intro b O H x y dx dy d Q vb ob hb dm hx hy e q
  unfold fI at e
  split at e
  · rename_i i j
    cases hx.int_inv; cases hy.int_inv
    cases e2 : gi i j with
    | none => rw [e2] at e; cases e
    | some k =>
      rw [e2] at e; cases e
      obtain ⟨h1, h2⟩ := h i j k e2
      exact ⟨i, j, rfl, rfl, h1, by rw [h2]; exact q _ _ [] (fun _ _ h => h) (fun a z => nomatch z) List.nodup_nil .int⟩
  · cases e
def gSub2 (i j : Int) : Option Int := some (i - j)
def gMul (i j : Int) : Option Int := if (-(2 ^ 64) < i ∧ i < 2 ^ 64) ∨ (-(2 ^ 64) < j ∧ j < 2 ^ 64) then some (i * j) else none
def gMod (i j : Int) : Option Int := if 0 < j then some (i % j) else none
def gDiv (i j : Int) : Option Int := if 0 < j ∧ j < 1073741824 then some (i / j) else none
def gPow (i j : Int) : Option Int := if 0 ≤ j ∧ j ≤ 1000000 ∧ i.natAbs < 2 ^ 64 then some (i ^ j.toNat) else none
theorem ev_sub (ha : EV X mu a .vw f1) (hb : EV X mu b .vw f2) : EV X mu (.BinOp a .Sub b pos) fz (d2 (fI gSub2) f1 f2) :=
  ev_bin (r := rI (fun _ _ => True) fun i j => .int (i - j)) (fun pins s σ H x y v u Q I rx ry ⟨i, j, e1, e2, _, q⟩ => op_sub pins s σ H x y v u Q I rx ry ⟨i, j, e1, e2, q⟩) (o_int fun i j k e => by cases e; exact ⟨trivial, rfl⟩) ha hb
theorem ev_mul (ha : EV X mu a .vw f1) (hb : EV X mu b .vw f2) : EV X mu (.BinOp a .Mult b pos) fz (d2 (fI gMul) f1 f2) := ev_bin op_mul (o_int fun i j k e => by
  unfold gMul at e
  split at e <;> cases e
  exact ⟨by assumption, rfl⟩) ha hb
theorem ev_mod (ha : EV X mu a .vw f1) (hb : EV X mu b .vw f2) : EV X mu (.BinOp a .Mod b pos) fz (d2 (fI gMod) f1 f2) := ev_bin op_mod (o_int fun i j k e => by
  unfold gMod at e
  split at e <;> cases e
  exact ⟨by assumption, rfl⟩) ha hb
theorem ev_fdiv (ha : EV X mu a .vw f1) (hb : EV X mu b .vw f2) : EV X mu (.BinOp a .FloorDiv b pos) fz (d2 (fI gDiv) f1 f2) := ev_bin op_fdiv (o_int fun i j k e => by
  unfold gDiv at e
  split at e <;> cases e
  exact ⟨by assumption, rfl⟩) ha hb
theorem ev_pow (ha : EV X mu a .vw f1) (hb : EV X mu b .vw f2) : EV X mu (.BinOp a .Pow b pos) fz (d2 (fI gPow) f1 f2) := ev_bin op_pow (o_int fun i j k e => by
  unfold gPow at e
  split at e <;> cases e
  exact ⟨by assumption, rfl⟩) ha hb
def fNeg (x : D) : Option D := match x with | .int i => some (.int (-i)) | _ => none
theorem ev_neg (ha : EV X mu a .vw f1) : EV X mu (.UnaryOp .USub a pos) fz (d1 fNeg f1) := ev_one (pe_un un_neg ha) (by
  intro b O H x dx d Q vb ob hb dm hx e q
  unfold fNeg at e
  split at e <;> cases e
  cases hx.int_inv
  exact ⟨_, rfl, q _ _ [] (fun _ _ h => h) (fun a z => nomatch z) List.nodup_nil .int⟩)

/-! comparisons -/
def fEq (x y : D) : Option D := match x, y with
  | .str s, .str t => some (.bl (decide (s = t)))
  | .int i, .int j => some (.bl (decide (i = j)))
  | .bl i, .bl j => some (.bl (decide (i = j)))
  | x, y => if shp x = true ∧ shp y = true then some (.bl (PyData.eqv (py x) (py y))) else none
def fNe (x y : D) : Option D := (fEq x y).bind fun d => match d with | .bl k => some (.bl (!k)) | _ => none
def rEqA (K : PySem.W.Frag) : R2 := fun x y H Q => rEq x y H Q ∨ rEqD K x y H Q
def rNeA (K : PySem.W.Frag) : R2 := fun x y H Q => rNe x y H Q ∨ rNeD K x y H Q
theorem o_eq : Op2 X (rEqA X.K) fz fEq := by
  intro b O H x y dx dy d Q vb ob hb dm hx hy e q
  have fin : ∀ k, d = .bl k → Q (.bl k) H := fun k e => by subst e; exact q _ _ [] (fun _ _ h => h) (fun a z => nomatch z) List.nodup_nil .bl
  unfold fEq at e
  split at e
  · cases hx.str_inv; cases hy.str_inv
    refine .inl ⟨rfl, fin _ ?_⟩
    cases e; simp
  · cases hx.int_inv; cases hy.int_inv
    refine .inl ⟨rfl, fin _ ?_⟩
    cases e; simp
  · cases hx.bl_inv; cases hy.bl_inv
    refine .inl ⟨rfl, fin _ ?_⟩
    cases e; simp
  · split at e <;> cases e
    rename_i h
    exact .inr ⟨_, _, hx.dp h.1, hy.dp h.2, h.1, h.2, fin _ rfl⟩
theorem o_ne : Op2 X (rNeA X.K) fz fNe := by
  intro b O H x y dx dy d Q vb ob hb dm hx hy e q
  have fin : ∀ k, d = .bl k → Q (.bl k) H := fun k e => by subst e; exact q _ _ [] (fun _ _ h => h) (fun a z => nomatch z) List.nodup_nil .bl
  unfold fNe fEq at e
  split at e
  · cases hx.str_inv; cases hy.str_inv
    refine .inl ⟨rfl, fin _ ?_⟩
    simp at e; cases e; simp
  · cases hx.int_inv; cases hy.int_inv
    refine .inl ⟨rfl, fin _ ?_⟩
    simp at e; cases e; simp
  · cases hx.bl_inv; cases hy.bl_inv
    refine .inl ⟨rfl, fin _ ?_⟩
    simp at e; cases e; simp
  · by_cases h : shp dx = true ∧ shp dy = true
    · rw [if_pos h] at e
      have e' : D.bl (!PyData.eqv (py dx) (py dy)) = d := Option.some.inj e
      exact .inr ⟨_, _, hx.dp h.1, hy.dp h.2, h.1, h.2, fin _ e'.symm⟩
    · rw [if_neg h] at e; cases e
theorem ev_eqC (hu : X.A.units + 64 < cLine) (ha : EV X mu a .vw f1) (hb : EV X mu b .vw f2) : EV X mu (.Compare a [.Eq] [b] pos) fz (d2 fEq f1 f2) := ev_cmp (op_eq.or (op_eqD hu)) o_eq ha hb (nomark _)
theorem ev_neC (hu : X.A.units + 64 < cLine) (ha : EV X mu a .vw f1) (hb : EV X mu b .vw f2) : EV X mu (.Compare a [.NotEq] [b] pos) fz (d2 fNe f1 f2) := ev_cmp (op_ne.or (op_neD hu)) o_ne ha hb (nomark _)
/-- order: whole numbers and texts -/
def fOrd (gi : Int → Int → Bool) (gs : Str → Str → Bool) (x y : D) : Option D := match x, y with
  | .int i, .int j => some (.bl (gi i j))
  | .str s, .str t => some (.bl (gs s t))
  | _, _ => none
def rOrd (gi : Int → Int → Bool) (gs : Str → Str → Bool) : R2 := fun x y H Q => (∃ i j, x = .int i ∧ y = .int j ∧ Q (.bl (gi i j)) H) ∨ (∃ i j, x = .str i ∧ y = .str j ∧ Q (.bl (gs i j)) H)
theorem o_ord {gi : Int → Int → Bool} {gs : Str → Str → Bool} : Op2 X (rOrd gi gs) fz (fOrd gi gs) := by
  intro b O H x y dx dy d Q vb ob hb dm hx hy e q
  unfold fOrd at e
  split at e
  · cases hx.int_inv; cases hy.int_inv; cases e
    exact .inl ⟨_, _, rfl, rfl, q _ _ [] (fun _ _ h => h) (fun a z => nomatch z) List.nodup_nil .bl⟩
  · cases hx.str_inv; cases hy.str_inv; cases e
    exact .inr ⟨_, _, rfl, rfl, q _ _ [] (fun _ _ h => h) (fun a z => nomatch z) List.nodup_nil .bl⟩
  · cases e
def sLt (s t : Str) : Bool := decide (s.cps.toList < t.cps.toList)
abbrev fLt : D → D → Option D := fOrd (fun i j => decide (i < j)) sLt
abbrev fLe : D → D → Option D := fOrd (fun i j => decide (i ≤ j)) fun s t => !sLt t s
abbrev fGt : D → D → Option D := fOrd (fun i j => decide (j < i)) fun s t => sLt t s
abbrev fGe : D → D → Option D := fOrd (fun i j => decide (j ≤ i)) fun s t => !sLt s t
theorem op_lt2 : OpR X (compareOp .Lt) (rOrd (fun i j => decide (i < j)) sLt) := op_lt.or op_lt_str
theorem op_le2 : OpR X (compareOp .LtE) (rOrd (fun i j => decide (i ≤ j)) fun s t => !sLt t s) := op_le.or op_le_str
theorem op_gt2 : OpR X (compareOp .Gt) (rOrd (fun i j => decide (j < i)) fun s t => sLt t s) := op_gt.or op_gt_str
theorem op_ge2 : OpR X (compareOp .GtE) (rOrd (fun i j => decide (j ≤ i)) fun s t => !sLt s t) := op_ge.or op_ge_str
theorem ev_lt (ha : EV X mu a .vw f1) (hb : EV X mu b .vw f2) : EV X mu (.Compare a [.Lt] [b] pos) fz (d2 fLt f1 f2) := ev_cmp op_lt2 o_ord ha hb (nomark _)
theorem ev_le (ha : EV X mu a .vw f1) (hb : EV X mu b .vw f2) : EV X mu (.Compare a [.LtE] [b] pos) fz (d2 fLe f1 f2) := ev_cmp op_le2 o_ord ha hb (nomark _)
theorem ev_gt (ha : EV X mu a .vw f1) (hb : EV X mu b .vw f2) : EV X mu (.Compare a [.Gt] [b] pos) fz (d2 fGt f1 f2) := ev_cmp op_gt2 o_ord ha hb (nomark _)
theorem ev_ge (ha : EV X mu a .vw f1) (hb : EV X mu b .vw f2) : EV X mu (.Compare a [.GtE] [b] pos) fz (d2 fGe f1 f2) := ev_cmp op_ge2 o_ord ha hb (nomark _)
/-- is None -/
def fIsN (x : D) : Option D := match x with
  | .non => some (.bl true)
  | .exc _ _ => none
  | _ => some (.bl false)
end
end Xa
/-! XA5: tests, and, or, not, if-else, chains, in, is None; tuples and lists written. -/
namespace Xa
open PySem PySem.Spec
open PyProof.Rows L2

abbrev DT := Gam → Bag → Option (Bool × Bag)
def tTs (K : PySem.W.Frag) (mu : List Md) (f : DT) : TT := fun σ H Q => ∃ (g : Bg) (O : Addr → Prop) (G : Gam) (B : Bag) (c : Bool) (B' : Bag), Fr K g O mu G σ H ∧ BagAt g.b g.l H B ∧ f G B = some (c, B') ∧
  ∀ H', Ext g.b H H' → BagAt g.b g.l H' B' → Q c H'
def ET (X : Cx) (mu : List Md) (e : Expr) (f : DT) : Prop := PT X e (tTs X.K mu f)
/-- the value as a truth -/
def asB (f : DE) : DT := fun G B => (f G B).bind fun p => match p.1 with | .bl c => some (c, p.2) | _ => none
theorem asB_some {f : DE} {G : Gam} {B B' : Bag} {c : Bool} (h : asB f G B = some (c, B')) : f G B = some (.bl c, B') := by
  unfold asB at h
  cases e : f G B with
  | none =>
      rw [e] at h; cases h
  | some p =>
    obtain ⟨d, B1⟩ := p
    rw [e] at h
    cases d with
    | bl k => cases h; rfl
    | _ => cases h
section
variable {X : Cx} {mu : List Md} {a b c : Expr} {f1 f2 f3 : DE} {u1 u2 : DT} {rm : Rm} {pos : Pos} {rest : List Expr}
/-- a value's bool, at the heap behind it -/
theorem tE_bl {K : PySem.W.Frag} {f : DE} {σ : L2.St} {H : Hp} {Q : Bool → Hp → Prop} (h : tTs K mu (asB f) σ H Q) : tE K mu fz f σ H fun x H' => ∃ k, x = .bl k ∧ Q k H' := by
  obtain ⟨g, O, G, B, c, B', F, hb, e, q⟩ := h
  exact ⟨g, O, G, B, .bl c, B', F, hb, asB_some e, fun v H' A Gt => ⟨c, by cases Gt.rw_; rfl, q H' Gt.ext Gt.bag⟩⟩
theorem et_val (h : EV X mu a fz f1) (he : ∀ whole, isTrue a X.env whole = (do let v ← whole; standAt a.pos; holding [v] (truthy v)) := by intro _; rfl) : ET X mu a (asB f1) := pt_imp (pt_val h he) fun σ H Q q => tE_bl q
/-- comparisons -/
theorem et_cmp {op : CmpOp} {r : R2} {f : D → D → Option D} (ho : OpR X (compareOp op) r) (h : Op2 X r fz f) (ha : EV X mu a .vw f1) (hb : EV X mu b .vw f2) (hm : behindInMarks op b = false) : ET X mu (.Compare a [op] [b] pos) (asB (d2 f f1 f2)) := by
  refine pt_imp (pt_cmpR ho ha hb hm) fun σ H Q q => ?_
  obtain ⟨g, O, G, B, c, B', F, hb', e, q⟩ := q
  have e' := d2_op (asB_some e)
  unfold dOp at e'
  cases e1 : (dCons f1 (dCons f2 dNil)) G B with
  | none => rw [e1] at e'; cases e'
  | some p =>
    obtain ⟨ds, B1⟩ := p
    simp only [e1, Option.bind_some] at e'
    cases e2 : sem2 f ds with
    | none => rw [e2] at e'; cases e'
    | some d' =>
      rw [e2] at e'
      have e3 : (d', B1) = (.bl c, B') := Option.some.inj e'
      cases e3
      have h2 : tL X.K mu [.vw, .vw] (dCons f1 (dCons f2 dNil)) σ H (fun vs H1 => rL2 r vs H1 fun x H' => ∃ k, x = .bl k ∧ Q k H') := ⟨g, O, G, B, ds, _, F, hb', e1, fun vs H1 A G1 => G1.op h.opn F hb' e2 fun v H' A' Gt => ⟨c, by cases Gt.rw_; rfl, q H' Gt.ext Gt.bag⟩⟩
      exact tL_two h2
theorem et_eq (hu : X.A.units + 64 < cLine) (ha : EV X mu a .vw f1) (hb : EV X mu b .vw f2) : ET X mu (.Compare a [.Eq] [b] pos) (asB (d2 fEq f1 f2)) := et_cmp (op_eq.or (op_eqD hu)) o_eq ha hb (nomark _)
theorem et_ne (hu : X.A.units + 64 < cLine) (ha : EV X mu a .vw f1) (hb : EV X mu b .vw f2) : ET X mu (.Compare a [.NotEq] [b] pos) (asB (d2 fNe f1 f2)) := et_cmp (op_ne.or (op_neD hu)) o_ne ha hb (nomark _)
theorem et_lt (ha : EV X mu a .vw f1) (hb : EV X mu b .vw f2) : ET X mu (.Compare a [.Lt] [b] pos) (asB (d2 fLt f1 f2)) := et_cmp op_lt2 o_ord ha hb (nomark _)
theorem et_le (ha : EV X mu a .vw f1) (hb : EV X mu b .vw f2) : ET X mu (.Compare a [.LtE] [b] pos) (asB (d2 fLe f1 f2)) := et_cmp op_le2 o_ord ha hb (nomark _)
theorem et_gt (ha : EV X mu a .vw f1) (hb : EV X mu b .vw f2) : ET X mu (.Compare a [.Gt] [b] pos) (asB (d2 fGt f1 f2)) := et_cmp op_gt2 o_ord ha hb (nomark _)
theorem et_ge (ha : EV X mu a .vw f1) (hb : EV X mu b .vw f2) : ET X mu (.Compare a [.GtE] [b] pos) (asB (d2 fGe f1 f2)) := et_cmp op_ge2 o_ord ha hb (nomark _)

/-! ### one behind the other -/
theorem tTs_then {K : PySem.W.Frag} {σ : L2.St} {H : Hp} {Q : Bool → Hp → Prop} {g : Bg} {O : Addr → Prop} {G : Gam} {B B' : Bag} {c : Bool} (F : Fr K g O mu G σ H) (hb : BagAt g.b g.l H B) (e : u1 G B = some (c, B'))
    (q : ∀ H1, Ext g.b H H1 → BagAt g.b g.l H1 B' → Fr K g O mu G σ H1 → Q c H1) : tTs K mu u1 σ H Q :=
  ⟨g, O, G, B, c, B', F, hb, e, fun H1 x h1 => q H1 x h1 (F.step0 hb x h1)⟩
def tAndD (u1 u2 : DT) : DT := fun G B => (u1 G B).bind fun p => if p.1 = true then u2 G p.2 else some (false, p.2)
def tOrD (u1 u2 : DT) : DT := fun G B => (u1 G B).bind fun p => if p.1 = true then some (true, p.2) else u2 G p.2
def tNotD (u1 : DT) : DT := fun G B => (u1 G B).bind fun p => some (!p.1, p.2)
def dIf (u1 : DT) (f2 f3 : DE) : DE := fun G B => (u1 G B).bind fun p => if p.1 = true then f2 G p.2 else f3 G p.2
/-- PW: and, or chains as tests -/
def EW (X : Cx) (mu : List Md) (e : Expr) (f : DT) : Prop := PW X e (tTs X.K mu f)
theorem pw_imp {X : Cx} {e : Expr} {t t' : TT} (h : PW X e t) (w : ∀ σ H Q, t' σ H Q → t σ H Q) : PW X e t' := ⟨fun wh pins s σ H Q I q => h.run wh pins s σ H Q I (w σ H Q q)⟩
theorem EW.et {e : Expr} {u : DT} (h : EW X mu e u) : ET X mu e u := PW.pt h
theorem ew_and1 (ha : ET X mu a u1) : EW X mu (.BoolOp .And [a] pos) u1 := pw_and1 ha
theorem ew_or1 (ha : ET X mu a u1) : EW X mu (.BoolOp .Or [a] pos) u1 := pw_or1 ha
theorem and_imp (σ : L2.St) (H : Hp) (Q : Bool → Hp → Prop) (h : tTs X.K mu (tAndD u1 u2) σ H Q) : tAnd (tTs X.K mu u1) (tTs X.K mu u2) σ H Q := by
  obtain ⟨g, O, G, B, c, B', F, hb, e, q⟩ := h
  unfold tAndD at e
  cases e1 : u1 G B with
  | none => rw [e1] at e; cases e
  | some p =>
    obtain ⟨k, B1⟩ := p
    simp only [e1, Option.bind_some] at e
    refine tTs_then F hb e1 fun H1 x h1 F1 => ?_
    cases k with
    | true =>
      rw [if_pos rfl] at e ⊢
      exact ⟨g, O, G, B1, c, B', F1, h1, e, fun H2 x2 h2 => q H2 (fun a o n z => x2 a o n (x a o n z)) h2⟩
    | false =>
      rw [if_neg Bool.false_ne_true] at e ⊢
      cases e
      exact q H1 x h1
theorem or_imp (σ : L2.St) (H : Hp) (Q : Bool → Hp → Prop) (h : tTs X.K mu (tOrD u1 u2) σ H Q) : tOr (tTs X.K mu u1) (tTs X.K mu u2) σ H Q := by
  obtain ⟨g, O, G, B, c, B', F, hb, e, q⟩ := h
  unfold tOrD at e
  cases e1 : u1 G B with
  | none => rw [e1] at e; cases e
  | some p =>
    obtain ⟨k, B1⟩ := p
    simp only [e1, Option.bind_some] at e
    refine tTs_then F hb e1 fun H1 x h1 F1 => ?_
    cases k with
    | false =>
      rw [if_neg Bool.false_ne_true] at e ⊢
      exact ⟨g, O, G, B1, c, B', F1, h1, e, fun H2 x2 h2 => q H2 (fun a o n z => x2 a o n (x a o n z)) h2⟩
    | true =>
      rw [if_pos rfl] at e ⊢
      cases e
      exact q H1 x h1
theorem ew_and (ha : ET X mu a u1) (hb : EW X mu (.BoolOp .And (b :: rest) pos) u2) : EW X mu (.BoolOp .And (a :: b :: rest) pos) (tAndD u1 u2) := pw_imp (pw_and ha hb) and_imp
theorem ew_or (ha : ET X mu a u1) (hb : EW X mu (.BoolOp .Or (b :: rest) pos) u2) : EW X mu (.BoolOp .Or (a :: b :: rest) pos) (tOrD u1 u2) := pw_imp (pw_or ha hb) or_imp
theorem et_not (ha : ET X mu a u1) : ET X mu (.UnaryOp .Not a pos) (tNotD u1) := pt_imp (pt_not ha) fun σ H Q ⟨g, O, G, B, c, B', F, hb, e, q⟩ => by
  unfold tNotD at e
  cases e1 : u1 G B with
  | none => rw [e1] at e; cases e
  | some p =>
    rw [e1] at e; cases e
    exact ⟨g, O, G, B, p.1, _, F, hb, e1, q⟩
theorem ev_if (hc : ET X mu c u1) (ha : EV X mu a rm f2) (hb : EV X mu b rm f3) : EV X mu (.IfExp c a b pos) rm (dIf u1 f2 f3) := pe_imp (pe_ifExp hc ha hb) fun σ H Q ⟨g, O, G, B, d, B', F, hb, e, q⟩ => by
  unfold dIf at e
  cases e1 : u1 G B with
  | none => rw [e1] at e; cases e
  | some p =>
    obtain ⟨k, B1⟩ := p
    simp only [e1, Option.bind_some] at e
    refine tTs_then F hb e1 fun H1 x h1 F1 => ?_
    cases k with
    | true =>
      rw [if_pos rfl] at e ⊢
      exact ⟨g, O, G, B1, d, B', F1, h1, e, fun v H2 A Gt => q v H2 A (Gt.after hb x h1)⟩
    | false =>
      rw [if_neg Bool.false_ne_true] at e ⊢
      exact ⟨g, O, G, B1, d, B', F1, h1, e, fun v H2 A Gt => q v H2 A (Gt.after hb x h1)⟩
/-! and, or, not as values: all but the last True or False -/
def dAnd (f1 f2 : DE) : DE := fun G B => (asB f1 G B).bind fun p => if p.1 = true then f2 G p.2 else some (.bl false, p.2)
def dOr (f1 f2 : DE) : DE := fun G B => (asB f1 G B).bind fun p => if p.1 = true then some (.bl true, p.2) else f2 G p.2
def fNot (x : D) : Option D := match x with | .bl k => some (.bl (!k)) | _ => none
theorem ev_and1 {op : BoolOp} (h : EV X mu a rm f1) : EV X mu (.BoolOp op [a] pos) rm f1 := pe_one h
theorem ev_and (ha : EV X mu a fz f1) (hb : EV X mu (.BoolOp .And (b :: rest) pos) fz f2) : EV X mu (.BoolOp .And (a :: b :: rest) pos) fz (dAnd f1 f2) := pe_imp (pe_and ha hb) fun σ H Q ⟨g, O, G, B, d, B', F, hb, e, q⟩ => by
  unfold dAnd at e
  cases e1 : asB f1 G B with
  | none => rw [e1] at e; cases e
  | some p =>
    obtain ⟨k, B1⟩ := p
    simp only [e1, Option.bind_some] at e
    refine tE_bl (tTs_then F hb e1 fun H1 x h1 F1 => ?_)
    cases k with
    | true =>
      rw [if_pos rfl] at e ⊢
      exact ⟨g, O, G, B1, d, B', F1, h1, e, fun v H2 A Gt => q v H2 A (Gt.after hb x h1)⟩
    | false =>
      rw [if_neg Bool.false_ne_true] at e ⊢
      cases e
      exact q _ H1 [] ⟨x, (fun a z => nomatch z), List.nodup_nil, h1, by rw [orN]; exact .bl⟩
theorem ev_or (ha : EV X mu a fz f1) (hb : EV X mu (.BoolOp .Or (b :: rest) pos) fz f2) : EV X mu (.BoolOp .Or (a :: b :: rest) pos) fz (dOr f1 f2) := pe_imp (pe_or ha hb) fun σ H Q ⟨g, O, G, B, d, B', F, hb, e, q⟩ => by
  unfold dOr at e
  cases e1 : asB f1 G B with
  | none => rw [e1] at e; cases e
  | some p =>
    obtain ⟨k, B1⟩ := p
    simp only [e1, Option.bind_some] at e
    refine tE_bl (tTs_then F hb e1 fun H1 x h1 F1 => ?_)
    cases k with
    | false =>
      rw [if_neg Bool.false_ne_true] at e ⊢
      exact ⟨g, O, G, B1, d, B', F1, h1, e, fun v H2 A Gt => q v H2 A (Gt.after hb x h1)⟩
    | true =>
      rw [if_pos rfl] at e ⊢
      cases e
      exact q _ H1 [] ⟨x, (fun a z => nomatch z), List.nodup_nil, h1, by rw [orN]; exact .bl⟩
theorem ev_not (ha : EV X mu a .vw f1) : EV X mu (.UnaryOp .Not a pos) fz (d1 fNot f1) := ev_one (r := fun x H Q => ∃ c, x = .bl c ∧ Q (.bl (!c)) H) (pe_not ha) (by
  intro b O H x dx d Q vb ob hb dm hx e q
  unfold fNot at e
  split at e <;> cases e
  cases hx.bl_inv
  exact ⟨_, rfl, q _ _ [] (fun _ _ h => h) (fun a z => nomatch z) List.nodup_nil .bl⟩)
end
end Xa
/-! XA6: chains, in, is None; tuples and lists written; places and slices. -/
namespace PySem.SeqAt
open PySem PySem.Spec PyProof.Rows PySem.MeetsSeq AutoSeq1
theorem xa_str_eq_declines_dict (b : Str) (u : Tok) (l : Addr) (o : Obj) (es : Array DictEntry) (n : Nat) (hc : o.cls = .type "dict") (hd : o.data = .dict es n) :
    Meets (Builtin.«str.__eq__» ⟨[.str b u, .ref l], []⟩) (fun _ R s => s.heap.get? l = some o ∧ R (.ok (.ret .notImplemented)) s) := by
  obtain ⟨cls, dd, data, sl⟩ := o
  simp only at hc hd
  subst hc hd
  exact .of_wp fun prog w A R s h => by obtain ⟨hp, g, d, tk, os⟩ := s; obtain ⟨hl, h⟩ := h; wp_walk using wpAny_loadPart' hl, wpAny_load hl; exact ⟨_, rfl, h⟩
theorem xa_dict_eq_declines_str (l : Addr) (o : Obj) (hc : o.cls = .type "dict") (b : Str) (u : Tok) :
    Meets (Builtin.«dict.__eq__» ⟨[.ref l, .str b u], []⟩) (fun _ R s => s.heap.get? l = some o ∧ R (.ok (.ret .notImplemented)) s) := by
  obtain ⟨cls, dd, data, sl⟩ := o
  simp only at hc
  subst hc
  exact .of_wp fun prog w A R s h => by obtain ⟨hp, g, d, tk, os⟩ := s; obtain ⟨hl, h⟩ := h; have f1 := F.sub_str_dict; wp_walk using wpAny_loadPart' hl; exact ⟨_, rfl, h⟩
section
variable {A : Around}
variable {s : Shared}
theorem xa_RcAt_str_dict {l : Addr} {o : Obj} {es : Array DictEntry} {n : Nat} (b : Str) (u : Tok) (ho : s.heap.get? l = some o) (hc : o.cls = .type "dict") (hd : o.data = .dict es n) (hu : A.units < cLine) : RcAt A s (.str b u) (.ref l) false := fun prog w E Q h => by
  exact rc_eq_decline_or (k := false) (typeIs_str s b u) ⟨_, ho, hc⟩ (by decide) F.sub_dict_str F.slot_str_eq F.slot_dict_eq_refl
    (fun _ hq => call_meets F.slot_str_eq (typeIs_str s b u) F.entry_str_eq (F.args_str_eq_2 _ _) (xa_str_eq_declines_dict b u l o es n hc hd) ⟨ho, hq⟩)
    (fun _ hq => call_meets F.slot_dict_eq_refl ⟨_, ho, hc⟩ F.entry_dict_eq (F.args_dict_eq_2 _ _) (xa_dict_eq_declines_str l o hc b u) ⟨ho, hq⟩) (fun _ hq => wpAny_of_eq (rfl : isSame (.str b u) (.ref l) = pure false) hq) (.inr hu) h
theorem xa_EqAt_str_dict {l : Addr} {o : Obj} {es : Array DictEntry} {n : Nat} (b : Str) (u : Tok) (ho : s.heap.get? l = some o) (hc : o.cls = .type "dict") (hd : o.data = .dict es n) (hu : A.units < cLine) : EqAt A s (.str b u) (.ref l) false := fun prog w E Q h => by
  unfold eqBool
  refine wpAny_holding ?_
  refine wpAny_ite_split (fun hab => absurd (eq_of_beq hab) nofun) (fun _ => ?_); exact wpAny_bind (xa_RcAt_str_dict b u ho hc hd hu prog w E _ (wpAny_truthy_bool h))
end
end PySem.SeqAt
namespace Xa
open PySem PySem.Spec
open PyProof.Rows L2
section
variable {X : Cx} {mu : List Md} {a b c : Expr} {f1 f2 f3 : DE} {rm : Rm} {pos : Pos}
/-! ### a < b < c -/
def dChain (g g' : D → D → Option D) (f1 f2 f3 : DE) : DE := fun G B => (f1 G B).bind fun p => (f2 G p.2).bind fun q => (g p.1 q.1).bind fun z => match z with
  | .bl true => (f3 G q.2).bind fun r => (g' q.1 r.1).map fun d => (d, r.2)
  | .bl false => some (.bl false, q.2)
  | _ => none
theorem chain_imp {gi gi' : Int → Int → Bool} {gs gs' : Str → Str → Bool} (σ : L2.St) (H : Hp) (Q : VK) (h : tE X.K mu fz (dChain (fOrd gi gs) (fOrd gi' gs') f1 f2 f3) σ H Q) :
    tChain (rOrd gi gs) (rOrd gi' gs') (tE X.K mu .vw f1) (tE X.K mu .vw f2) (tE X.K mu .vw f3) σ H Q := by
  obtain ⟨g, O, G, B, d, B', F, hb, e, q⟩ := h
  unfold dChain at e
  cases e1 : f1 G B with
  | none => rw [e1] at e; cases e
  | some p1 =>
    obtain ⟨dx, B1⟩ := p1
    cases e2 : f2 G B1 with
    | none => simp [e1, e2] at e
    | some p2 =>
      obtain ⟨dy, B2⟩ := p2
      simp only [e1, e2, Option.bind_some] at e
      -- the first two
      have h12 : tL X.K mu [.vw, .vw] (dCons f1 (dCons f2 dNil)) σ H (fun vs H2 => rL2 (fun x y H2 Q' => rOrd gi gs x y H2 fun z H3 => ∃ k, z = .bl k ∧ (if k = true then tE X.K mu .vw f3 σ H3 fun w' H4 => rOrd gi' gs' y w' H4 Q else Q (.bl false) H3)) vs H2 Q) := by
        refine ⟨g, O, G, B, [dx, dy], B2, F, hb, by unfold dCons dNil; simp [e1, e2], fun vs H2 A G2 => ?_⟩
        have dmA : ∀ a ∈ A, H2 a ≠ none := fun a z => (G2.rw_.dom a z).2
        cases G2.rw_ with
        | cons r1 t =>
          cases t with
          | cons r2 t =>
            cases t
            obtain ⟨rfl, w1⟩ := r1
            obtain ⟨rfl, w2⟩ := r2
            have F2 : Fr X.K g O mu G σ H2 := F.step0 hb G2.ext G2.bag
            -- the third, where it is asked
            have third : ∀ k, fOrd gi gs dx dy = some (.bl k) → (∀ y3, (y3 = dy) → True) → ∀ (yv : V), (∀ w' H4 dz, Ext g.b H2 H4 → BagAt g.b g.l H4 B' → Vw X.K g.b O H4 w' dz → fOrd gi' gs' dy dz = some d → rOrd gi' gs' yv w' H4 Q) →
                ∃ k', V.bl k = V.bl k' ∧ (if k' = true then tE X.K mu .vw f3 σ H2 fun w' H4 => rOrd gi' gs' yv w' H4 Q else Q (.bl false) H2) := fun k ek _ yv fin => by
              refine ⟨k, rfl, ?_⟩
              rw [ek] at e
              cases k with
              | false =>
                simp only [Option.bind_some, Option.some.injEq, Prod.mk.injEq] at e
                obtain ⟨rfl, rfl⟩ := e; rw [if_neg Bool.false_ne_true]
                exact q _ H2 [] ⟨G2.ext, (fun a z => nomatch z), List.nodup_nil, G2.bag, by rw [orN]; exact .bl⟩
              | true =>
                simp only [Option.bind_some] at e
                rw [if_pos rfl]
                cases e3 : f3 G B2 with
                | none => rw [e3] at e; cases e
                | some p3 =>
                  obtain ⟨dz, B3⟩ := p3
                  rw [e3, Option.bind_some] at e
                  cases e4 : fOrd gi' gs' dy dz with
                  | none => rw [e4] at e; cases e
                  | some d' =>
                    rw [e4] at e
                    cases e
                    refine ⟨g, O, G, B2, dz, _, F2, G2.bag, e3, fun w' H4 A4 G4 => ?_⟩
                    obtain ⟨rfl, w3⟩ := G4.rw_
                    rw [orN] at w3
                    exact fin w' H4 dz G4.ext G4.bag w3 e4
            have q' : ∀ (H4 : Hp) (k : Bool), Ext g.b H2 H4 → BagAt g.b g.l H4 B' → d = .bl k → Q (.bl k) H4 := fun H4 k x4 b4 ed => by
              subst ed
              exact q _ H4 [] ⟨fun a o n z => x4 a o n (G2.ext a o n z), (fun a z => nomatch z), List.nodup_nil, b4, by rw [orN]; exact .bl⟩
            simp only [rL2]
            cases ek : fOrd gi gs dx dy with
            | none => rw [ek] at e; cases e
            | some z =>
              unfold fOrd at ek
              split at ek
              · cases w1.int_inv; cases w2.int_inv; cases ek
                refine .inl ⟨_, _, rfl, rfl, third _ rfl (fun _ _ => trivial) _ fun w' H4 dz x4 b4 w3 e4 => ?_⟩
                cases dz with
                | int k => cases w3.int_inv; cases e4; exact .inl ⟨_, _, rfl, rfl, q' H4 _ x4 b4 rfl⟩
                | _ => cases e4
              · cases w1.str_inv; cases w2.str_inv; cases ek
                refine .inr ⟨_, _, rfl, rfl, third _ rfl (fun _ _ => trivial) _ fun w' H4 dz x4 b4 w3 e4 => ?_⟩
                cases dz with
                | str k => cases w3.str_inv; cases e4; exact .inr ⟨_, _, rfl, rfl, q' H4 _ x4 b4 rfl⟩
                | _ => cases e4
              · cases ek
      exact tL_two h12
theorem ev_chain {op op' : CmpOp} {gi gi' : Int → Int → Bool} {gs gs' : Str → Str → Bool} (ho : OpR X (compareOp op) (rOrd gi gs)) (ho' : OpR X (compareOp op') (rOrd gi' gs')) (ha : EV X mu a .vw f1) (hb : EV X mu b .vw f2) (hc : EV X mu c .vw f3)
    (hm : lastMarks [op, op'] [b, c] = false := by with_unfolding_all rfl) : EV X mu (.Compare a [op, op'] [b, c] pos) fz (dChain (fOrd gi gs) (fOrd gi' gs') f1 f2 f3) := pe_imp (pe_chain ho ho' ha hb hc hm) chain_imp
theorem et_chain {op op' : CmpOp} {gi gi' : Int → Int → Bool} {gs gs' : Str → Str → Bool} (ho : OpR X (compareOp op) (rOrd gi gs)) (ho' : OpR X (compareOp op') (rOrd gi' gs')) (ha : EV X mu a .vw f1) (hb : EV X mu b .vw f2) (hc : EV X mu c .vw f3)
    (hm : lastMarks [op, op'] [b, c] = false := by with_unfolding_all rfl) : ET X mu (.Compare a [op, op'] [b, c] pos) (asB (dChain (fOrd gi gs) (fOrd gi' gs') f1 f2 f3)) :=
  pt_imp (pt_chain ho ho' ha hb hc hm) fun σ H Q q => chain_imp σ H _ (tE_bl q)

/-! ### is None -/
def fIsNone (x : D) : Option D := match x with
  | .non => some (.bl true)
  | .exc _ _ => none
  | _ => some (.bl false)
def fIsNot (x : D) : Option D := match x with
  | .non => some (.bl false)
  | .exc _ _ => none
  | _ => some (.bl true)
theorem Vw.non_iff {K : PySem.W.Frag} {b : Addr} {O : Addr → Prop} {H : Hp} {v : V} {d : D} (h : Vw K b O H v d) : (v = .non ↔ d = .non) := by
  cases h with
  | of h => cases h <;> simp
  | kt => simp
  | lst => simp
  | dk => simp
  | dt => simp
theorem o_isN : Op1 X (fun x H Q => Q (.bl (decide (x = .non))) H) fz fIsNone := by
  intro b O H x dx d Q vb ob hb dm hx e q
  have fin : ∀ k, d = .bl k → Q (.bl k) H := fun k e => by subst e; exact q _ _ [] (fun _ _ h => h) (fun a z => nomatch z) List.nodup_nil .bl
  refine fin _ ?_
  have hi := hx.non_iff
  cases dx <;> simp [fIsNone] at e hi ⊢ <;> first | (subst e; simp [hi]) | skip
theorem o_notN : Op1 X (fun x H Q => Q (.bl (!decide (x = .non))) H) fz fIsNot := by
  intro b O H x dx d Q vb ob hb dm hx e q
  have fin : ∀ k, d = .bl k → Q (.bl k) H := fun k e => by subst e; exact q _ _ [] (fun _ _ h => h) (fun a z => nomatch z) List.nodup_nil .bl
  refine fin _ ?_
  have hi := hx.non_iff
  cases dx <;> simp [fIsNot] at e hi ⊢ <;> first | (subst e; simp [hi]) | skip
theorem ev_isN {j p'} (ha : EV X mu a .vw f1) : EV X mu (.Compare a [.Is] [.Constant .none j p'] pos) fz (d1 fIsNone f1) := ev_one (pe_cmp (pc_isN ha) rfl) o_isN
theorem ev_notN {j p'} (ha : EV X mu a .vw f1) : EV X mu (.Compare a [.IsNot] [.Constant .none j p'] pos) fz (d1 fIsNot f1) := ev_one (pe_cmp (pc_notN ha) rfl) o_notN
/-- a test from a value's rule, of one thing -/
theorem et_of1 {e : Expr} {t : TE} {r : V → Hp → VK → Prop} {f : D → Option D} (hp : PT X e (tB t)) (hr : ∀ σ H Q, tUn r (tE X.K mu .vw f1) σ H Q → t σ H Q) (h : Op1 X r fz f) : ET X mu e (asB (d1 f f1)) := by
  refine pt_imp hp fun σ H Q q => ?_
  obtain ⟨g, O, G, B, c, B', F, hb', e, q⟩ := q
  have e' := d1_op (asB_some e)
  unfold dOp at e'
  cases e1 : (dCons f1 dNil) G B with
  | none => rw [e1] at e'; cases e'
  | some p =>
    obtain ⟨ds, B1⟩ := p
    simp only [e1, Option.bind_some] at e'
    cases e2 : sem1 f ds with
    | none => rw [e2] at e'; cases e'
    | some d' =>
      rw [e2] at e'
      have e3 : (d', B1) = (.bl c, B') := Option.some.inj e'
      cases e3
      have h2 : tL X.K mu [.vw] (dCons f1 dNil) σ H (fun vs H1 => rL1 r vs H1 fun x H' => ∃ k, x = .bl k ∧ Q k H') := ⟨g, O, G, B, ds, _, F, hb', e1, fun vs H1 A G1 => G1.op h.opn F hb' e2 fun v H' A' Gt => ⟨c, by cases Gt.rw_; rfl, q H' Gt.ext Gt.bag⟩⟩
      exact hr σ H _ (tL_one h2)
theorem et_isN {j p'} (ha : EV X mu a .vw f1) : ET X mu (.Compare a [.Is] [.Constant .none j p'] pos) (asB (d1 fIsNone f1)) := et_of1 (pt_cmp (pc_isN ha) rfl) (fun _ _ _ h => h) o_isN
theorem et_notN {j p'} (ha : EV X mu a .vw f1) : ET X mu (.Compare a [.IsNot] [.Constant .none j p'] pos) (asB (d1 fIsNot f1)) := et_of1 (pt_cmp (pc_notN ha) rfl) (fun _ _ _ h => h) o_notN
end
end Xa
/-! XA7: keys, in, places, slices. -/
namespace Xa
open PySem PySem.Spec
open PyProof.Rows L2

def kOf : D → Option Key
  | .int i => some (.inl i)
  | .str x => some (.inr x)
  | _ => none
def ksOf : List D → Option (List Key)
  | [] => some []
  | x :: r => (kOf x).bind fun k => (ksOf r).map fun l => k :: l
def tOf : D → Option (List Key)
  | .tup l => ksOf l
  | _ => none
/-- the same key -/
def keq (x y : D) : Bool := match kOf x, kOf y with
  | some k, some k' => decide (k = k')
  | _, _ => match tOf x, tOf y with
    | some k, some k' => decide (k = k')
    | _, _ => false
def isKey (x : D) : Bool := (kOf x).isSome || (tOf x).isSome
/-- x may be asked of a dict of these keys -/
def okK (kvs : List (D × D)) (x : D) : Bool := isKey x && (match kvs with | [] => true | p :: _ => (kOf p.1).isSome == (kOf x).isSome)
def dicFind (kvs : List (D × D)) (x : D) : Option D := (kvs.find? fun p => keq p.1 x).map (·.2)

theorem kOf_kD (k : Key) : kOf (kD k) = some k := by cases k <;> rfl
theorem kOf_inv {x : D} {k : Key} (h : kOf x = some k) : x = kD k := by cases x <;> simp [kOf] at h <;> (subst h; rfl)
theorem ksOf_inv : ∀ {l : List D} {ks : List Key}, ksOf l = some ks → l = ks.map kD
  | [], ks, h => by cases h; rfl
  | x :: r, ks, h => by
    unfold ksOf at h
    cases e : kOf x with
    | none =>
        rw [e] at h; cases h
    | some k =>
      rw [e, Option.bind_some] at h
      cases e2 : ksOf r with
      | none => rw [e2] at h; cases h
      | some l =>
        rw [e2] at h; cases h
        rw [kOf_inv e, ksOf_inv e2]; rfl
theorem ksOf_map : ∀ ks : List Key, ksOf (ks.map kD) = some ks
  | [] => rfl
  | k :: r => by
    show ((kOf (kD k)).bind fun k => (ksOf (r.map kD)).map fun l => k :: l) = _
    rw [kOf_kD, ksOf_map r]; rfl
theorem tOf_kT (ks : List Key) : tOf (kT ks) = some ks := ksOf_map ks
theorem tOf_inv {x : D} {ks : List Key} (h : tOf x = some ks) : x = kT ks := by
  cases x with
  | tup l => rw [ksOf_inv h]; rfl
  | _ => cases h
theorem kOf_kT (ks : List Key) : kOf (kT ks) = none := rfl
theorem tOf_kD (k : Key) : tOf (kD k) = none := by cases k <;> rfl
theorem keq_kD (k k' : Key) : keq (kD k) (kD k') = decide (k = k') := by unfold keq; rw [kOf_kD, kOf_kD]
theorem keq_kT (k k' : List Key) : keq (kT k) (kT k') = decide (k = k') := by unfold keq; rw [kOf_kT, tOf_kT, tOf_kT]

section
variable {K : PySem.W.Frag} {b l : Addr} {O O' : Addr → Prop} {H H' : Hp} {v : V}
theorem Ow.key {m : Md} {k : Key} {A : List Addr} (h : Ow K b O H m v (kD k) A) : v = kV k := by
  cases k with
  | inl i => cases h; rfl
  | inr x => cases h; rfl
theorem OwL.keys {m : Md} : ∀ {ks : List Key} {vs : List V} {A : List Addr}, OwL K b O H m vs (ks.map kD) A → vs = ks.map kV
  | [], vs, A, h => by cases h; rfl
  | k :: r, vs, A, h => by
    obtain ⟨v, vs', A1, A2, rfl, rfl, p, q⟩ := h.consd_inv
    rw [p.key, OwL.keys q]; rfl
theorem Ow.tkey {m : Md} {k : List Key} {A : List Addr} (h : Ow K b O H m v (kT k) A) : ∃ a, v = .ref a ∧ H a = some (.tup (k.map kV)) := by
  cases h with
  | tup _ q t => exact ⟨_, rfl, by rw [← t.keys]; exact q⟩
/-- looking up: in the dict's pairs as in the data -/
theorem find_zip {κ : Type} [DecidableEq κ] {kk : κ → D} (inj : ∀ k k', keq (kk k) (kk k') = decide (k = k')) (k : κ) : ∀ {es : List (κ × V)} {ds : List D} {A : List Addr} {m : Md}, OwL K b O H m (es.map (·.2)) ds A → m = .frz ∨ m = .imm →
    (dicFind ((es.map fun p => kk p.1).zip ds) (kk k) = none ∧ valV es k = none) ∨ ∃ d w, dicFind ((es.map fun p => kk p.1).zip ds) (kk k) = some d ∧ valV es k = some w ∧ Ow K b O H m w d []
  | [], ds, A, m, h, hm => by cases h; exact .inl ⟨rfl, rfl⟩
  | p :: r, ds, A, m, h, hm => by
    obtain ⟨d, ds', A1, A2, rfl, rfl, h1, h2⟩ := OwL.cons_inv h
    have e1 : A1 = [] := Ow.noA.1 h1 (by rcases hm with rfl | rfl; exact .inr (.inl rfl); exact .inl rfl)
    subst e1
    by_cases e : p.1 = k
    · right
      refine ⟨d, p.2, ?_, valV_pos e, h1⟩
      simp [dicFind, inj, e]
    · rcases find_zip inj k h2 hm with ⟨q1, q2⟩ | ⟨d', w, q1, q2, q3⟩
      · left
        refine ⟨?_, by rw [valV_neg e]; exact q2⟩
        simpa [dicFind, inj, e] using q1
      · right
        refine ⟨d', w, ?_, by rw [valV_neg e]; exact q2, q3⟩
        simpa [dicFind, inj, e] using q1
end

/-! ### an empty dict is one of tuple keys as well -/
section
variable {X : Cx} {pins : List (Addr × Obj)} {σ : L2.St} {H : Hp} {s : Shared} {a : Addr}
theorem empty_kt (I : Inv X pins σ H s) (e : H a = some (.dK [])) : Inv X pins σ (upd H a (.dT [])) s := by
  have hk := I.hok a _ e
  obtain ⟨z, y, vs, r, o, es, ep, h1, h2⟩ := hk
  have hv : vs = [] := by
    have := Paired.length (show Paired _ _ _ from r)
    cases vs with
    | nil => rfl
    | cons => simp at this
  subst hv
  refine I.write (x := a) (e := a) (o := .dT []) (h' := s.heap) (t' := s.toks) (by rw [e]; trivial) (.inl rfl) (fun b u _ q => q) ⟨o, h1⟩ ?_
  refine ⟨z, y, [], .nil, o, es, ep, h1, h2.1, h2.2.1, ?_, by simp⟩
  have hp := h2.2.2.2.1
  cases he : es.toList with
  | nil => rfl
  | cons x r => rw [he] at hp; cases hp
theorem empty_tk (I : Inv X pins σ H s) (e : H a = some (.dT [])) : Inv X pins σ (upd H a (.dK [])) s := by
  have hk := I.hok a _ e
  obtain ⟨z, y, xs, r, o, es, ep, h1, h2, h3, h4, h5⟩ := hk
  have hv : xs = [] := by
    have := Paired.length (show Paired _ _ _ from r)
    cases xs with
    | nil => rfl
    | cons => simp at this
  subst hv
  refine I.write (x := a) (e := a) (o := .dK []) (h' := s.heap) (t' := s.toks) (by rw [e]; trivial) (.inl rfl) (fun b u _ q => q) ⟨o, h1⟩ ?_
  have he : es.toList = [] := h4
  refine ⟨z, y, [], .nil, o, es, ep, h1, h2, h3, ?_, by rw [he]; exact .nil, by simp⟩
  intro e hm
  have : e ∈ es.toList := by simpa using hm
  rw [he] at this
  cases this
end

/-- what the dict holds, an empty one asked by keys of the other kind as well -/
def DGetE (H : Hp) (a : Addr) (y : V) (r : Option V) : Prop :=
  DGet H a y r ∨ (H a = some (.dK []) ∧ r = none ∧ ∃ b k, y = .ref b ∧ H b = some (.tup (List.map kV k))) ∨ (H a = some (.dT []) ∧ r = none ∧ ∃ k, y = kV k)
section
variable {K : PySem.W.Frag} {b l : Addr} {O O' : Addr → Prop} {H H' : Hp} {v : V}
/-- looking a key up -/
theorem dic_get {y x : V} {kvs : List (D × D)} {dx : D} (hy : Vw K b O H y (.dic kvs)) (hx : Ow K b O H .frz x dx []) (ok : okK kvs dx = true) :
    ∃ a, y = .ref a ∧ ((dicFind kvs dx = none ∧ DGetE H a x none) ∨ ∃ d w, dicFind kvs dx = some d ∧ DGetE H a x (some w) ∧ Ow K b O H .frz w d []) := by
  unfold okK at ok
  obtain ⟨ik, hd⟩ := Bool.and_eq_true_iff.mp ok
  -- a dict of int and text keys
  have goK : ∀ {a : Addr} {es : List (Key × V)} {ds : List D}, kvs = (es.map fun p => kD p.1).zip ds → Rd H a (.dK es) → OwL K b O H .frz (es.map (·.2)) ds [] → (Rd H a (.dK es) → es = [] → H a = some (.dK [])) →
      ((dicFind kvs dx = none ∧ DGetE H a x none) ∨ ∃ d w, dicFind kvs dx = some d ∧ DGetE H a x (some w) ∧ Ow K b O H .frz w d []) := fun {a es ds} ek r t he => by
    cases ek0 : kOf dx with
    | some k =>
      obtain rfl := kOf_inv ek0
      subst ek
      rcases find_zip (kk := kD) keq_kD k t (.inl rfl) with ⟨q1, q2⟩ | ⟨d, w, q1, q2, q3⟩
      · exact .inl ⟨q1, .inl (.inl ⟨es, k, r, hx.key, q2.symm⟩)⟩
      · exact .inr ⟨d, w, q1, .inl (.inl ⟨es, k, r, hx.key, q2.symm⟩), q3⟩
    | none =>
      unfold isKey at ik
      rw [ek0] at ik
      cases et : tOf dx with
      | none => rw [et] at ik; cases ik
      | some ks =>
        obtain rfl := tOf_inv et
        obtain ⟨b', e1, e2⟩ := hx.tkey
        cases es with
        | nil =>
          cases t
          subst ek
          exact .inl ⟨rfl, .inr (.inl ⟨he r rfl, rfl, b', ks, e1, e2⟩)⟩
        | cons p r' =>
          obtain ⟨d, ds', A1, A2, rfl, eA, h1, h2⟩ := OwL.cons_inv t
          subst ek
          have hd' : ((kOf (kD p.1)).isSome == (kOf (kT ks)).isSome) = true := hd
          rw [kOf_kD] at hd'
          cases hd'
  have goT : ∀ {a : Addr} {es : List (List Key × V)} {ds : List D}, kvs = (es.map fun p => kT p.1).zip ds → Rd H a (.dT es) → OwL K b O H .frz (es.map (·.2)) ds [] → (Rd H a (.dT es) → es = [] → H a = some (.dT [])) →
      ((dicFind kvs dx = none ∧ DGetE H a x none) ∨ ∃ d w, dicFind kvs dx = some d ∧ DGetE H a x (some w) ∧ Ow K b O H .frz w d []) := fun {a es ds} ek r t he => by
    cases et : tOf dx with
    | some ks =>
      obtain rfl := tOf_inv et
      obtain ⟨b', e1, e2⟩ := hx.tkey
      subst ek
      rcases find_zip (kk := kT) keq_kT ks t (.inl rfl) with ⟨q1, q2⟩ | ⟨d, w, q1, q2, q3⟩
      · exact .inl ⟨q1, .inl (.inr ⟨es, ks, b', r, e1, e2, q2.symm⟩)⟩
      · exact .inr ⟨d, w, q1, .inl (.inr ⟨es, ks, b', r, e1, e2, q2.symm⟩), q3⟩
    | none =>
      unfold isKey at ik
      rw [et] at ik
      cases ek0 : kOf dx with
      | none => rw [ek0] at ik; cases ik
      | some k =>
        obtain rfl := kOf_inv ek0
        cases es with
        | nil =>
          cases t
          subst ek
          exact .inl ⟨rfl, .inr (.inr ⟨he r rfl, rfl, k, hx.key⟩)⟩
        | cons p r' =>
          obtain ⟨d, ds', A1, A2, rfl, eA, h1, h2⟩ := OwL.cons_inv t
          subst ek
          have hd' : ((kOf (kT p.1)).isSome == (kOf (kD k)).isSome) = true := hd
          rw [kOf_kD] at hd'
          cases hd'
  generalize eD : D.dic kvs = dd at hy
  cases hy with
  | of h =>
    cases h with
    | dkF n r z t => cases eD; exact ⟨_, rfl, goK rfl r t fun _ e => z e⟩
    | dtF n r z t => cases eD; exact ⟨_, rfl, goT rfl r t fun _ e => z e⟩
    | _ => cases eD
  | kt => cases eD
  | lst => cases eD
  | dk n r t => cases eD; exact ⟨_, rfl, goK rfl (.inl r) t fun _ e => by subst e; exact r⟩
  | dt n r t => cases eD; exact ⟨_, rfl, goT rfl (.inl r) t fun _ e => by subst e; exact r⟩
end
end Xa
/-! XA8: in, places, slices, displays. -/
namespace Xa
open PySem PySem.Spec
open PyProof.Rows L2

section
variable {K : PySem.W.Frag} {b l : Addr} {O O' : Addr → Prop} {H H' : Hp} {v : V}
/-- the heap with another empty dict, and back -/
theorem upd_back {a : Addr} {o u : HO} (h : H a = some o) : upd (upd H a u) a o = H := by
  rw [upd_upd]; funext c; unfold upd; split
  · rename_i e; rw [e, h]
  · rfl
theorem DGetE.isIn {X : Cx} {pins : List (Addr × Obj)} {σ : L2.St} {s : Shared} {a : Addr} {y : V} {o : Option V} {u : Value} {A : Around} {E Q : Value → Shared → Prop} (hu : A.units + 1 < cLine) (I : Inv X pins σ H s) (g : DGetE H a y o) (ry : RelV y u) (h : ∀ s', Inv X pins σ H s' → Q (.bool o.isSome) s') : wpAny (model X.prog X.w) A (compareOp .In u (.ref a)) Q E s := by
  rcases g with g | ⟨e, rfl, p, k, rfl, e2⟩ | ⟨e, rfl, k, rfl⟩
  · exact d_in hu I g ry h
  · have I2 := empty_kt I e
    refine d_in (H := upd H a (.dT [])) (o := none) hu I2 (.inr ⟨[], k, p, .inl upd_same, rfl, ?_, rfl⟩) ry fun s' I' => h s' ?_
    · rw [upd_ne (fun z => by rw [z, e] at e2; cases e2)]; exact e2
    · have := empty_tk I' upd_same
      rw [upd_back e] at this
      exact this
  · have I2 := empty_tk I e
    refine d_in (H := upd H a (.dK [])) (o := none) hu I2 (.inl ⟨[], k, .inl upd_same, rfl, rfl⟩) ry fun s' I' => h s' ?_
    have := empty_kt I' upd_same
    rw [upd_back e] at this
    exact this
theorem DGetE.notIn {X : Cx} {pins : List (Addr × Obj)} {σ : L2.St} {s : Shared} {a : Addr} {y : V} {o : Option V} {u : Value} {A : Around} {E Q : Value → Shared → Prop} (hu : A.units + 1 < cLine) (I : Inv X pins σ H s) (g : DGetE H a y o) (ry : RelV y u) (h : ∀ s', Inv X pins σ H s' → Q (.bool (!o.isSome)) s') : wpAny (model X.prog X.w) A (compareOp .NotIn u (.ref a)) Q E s := by
  rcases g with g | ⟨e, rfl, p, k, rfl, e2⟩ | ⟨e, rfl, k, rfl⟩
  · exact d_notIn hu I g ry h
  · have I2 := empty_kt I e
    refine d_notIn (H := upd H a (.dT [])) (o := none) hu I2 (.inr ⟨[], k, p, .inl upd_same, rfl, ?_, rfl⟩) ry fun s' I' => h s' ?_
    · rw [upd_ne (fun z => by rw [z, e] at e2; cases e2)]; exact e2
    · have := empty_tk I' upd_same
      rw [upd_back e] at this
      exact this
  · have I2 := empty_tk I e
    refine d_notIn (H := upd H a (.dK [])) (o := none) hu I2 (.inl ⟨[], k, .inl upd_same, rfl, rfl⟩) ry fun s' I' => h s' ?_
    have := empty_kt I' upd_same
    rw [upd_back e] at this
    exact this
end

/-! ### in -/
def isStr : D → Bool | .str _ => true | _ => false
def memD (x : D) (ds : List D) : Bool := ds.any fun z => PyData.eqv (py z) (py x)
/-- what may be asked: atoms among atoms, anything among texts, data among data -/
def okIn (x : D) (ds : List D) : Bool := (isAtom x && ds.all isAtom) || (ds.all isStr && (match x with | .exc _ _ => false | _ => true)) || (shp x && shp (.lst ds))
def fIn (x y : D) : Option D := match y with
  | .str t => match x with
    | .str s => match s.cps.toList with
      | [c] => some (.bl (decide (c ∈ t.cps.toList)))
      | _ => none
    | _ => none
  | .tup ds => if okIn x ds = true then some (.bl (memD x ds)) else none
  | .lst ds => if okIn x ds = true then some (.bl (memD x ds)) else none
  | .dic kvs => if okK kvs x = true then some (.bl (dicFind kvs x).isSome) else none
  | _ => none
def fNotIn (x y : D) : Option D := (fIn x y).bind fun d => match d with | .bl k => some (.bl (!k)) | _ => none
/-- a thing that is no text: told by what stands there -/
def NoStr (K : PySem.W.Frag) (H : Hp) (x : V) : Prop := x = .non ∨ (∃ k, x = .bl k) ∨ (∃ i, x = .int i) ∨ ∃ a, x = .ref a ∧ ((∃ vs, SqL K H a vs) ∨ (∃ vs, SqT K H a vs) ∨ (∃ es, Rd H a (.dK es)) ∨ ∃ es, Rd H a (.dT es))
def strIn (x : V) (ss : List Str) : Bool := match x with | .str z => ss.any fun s => s == z | _ => false
def rInS (K : PySem.W.Frag) (neg : Bool) : R2 := fun x y H Q => ∃ (p : Addr) (ss : List Str), y = .ref p ∧ (SqL K H p (List.map V.str ss) ∨ SqT K H p (List.map V.str ss)) ∧ NoStr K H x ∧ Q (.bl neg) H
section
variable {X : Cx}
theorem noStr_eq {pins : List (Addr × Obj)} {σ : L2.St} {H : Hp} {s : Shared} (I : Inv X pins σ H s) {x : V} {u : Value} (rx : RelV x u) (n : NoStr X.K H x) {A : Around} (hu : A.units < cLine) (z : Str) (t : Tok) : SeqAt.EqAt A s (.str z t) u false := by
  rcases n with rfl | ⟨k, rfl⟩ | ⟨i, rfl⟩ | ⟨a, rfl, n⟩
  · cases rx; exact SeqAt.EqAt.str_none z t
  · cases rx; exact SeqAt.EqAt.str_bool z t k
  · obtain ⟨t', rfl⟩ := rx; exact SeqAt.EqAt.str_int z t i t'
  · cases rx
    rcases n with ⟨vs, h⟩ | ⟨vs, h⟩ | ⟨es, h⟩ | ⟨es, h⟩
    · obtain ⟨its, r, p, _⟩ := I.list h
      exact SeqAt.EqAt.str_list z t p.isList hu
    · obtain ⟨its, r, p, _⟩ := I.tuple h
      exact SeqAt.EqAt.str_tuple z t p hu
    · obtain ⟨_, _, vs, _, o, es', ep, h1, h2, h3, _⟩ := dk_rd I.hok h
      exact SeqAt.xa_EqAt_str_dict z t h1 h2.1 h3 hu
    · obtain ⟨_, _, vs, _, o, es', ep, h1, h2, h3, _⟩ := dt_rd I.hok h
      exact SeqAt.xa_EqAt_str_dict z t h1 h2.1 h3 hu
theorem vals_str : ∀ {ss : List Str} {us : List Value}, Vals (List.map V.str ss) us → ∀ u ∈ us, ∃ z t, u = Value.str z t
  | [], us, h, u, m => by cases h; cases m
  | s :: r, us, h, u, m => by
    cases h with
    | cons p q =>
      obtain ⟨t, rfl⟩ := p
      rcases List.mem_cons.mp m with rfl | m
      · exact ⟨_, _, rfl⟩
      · exact vals_str q u m
theorem any_false {α : Type} (l : List α) : l.any (fun _ => false) = false := by induction l <;> simp_all
theorem op_inS (hu : X.A.units + 1 < cLine) : OpR X (compareOp .In) (rInS X.K false) := by
  intro pins s σ H x y v u Q I rx ry h; obtain ⟨p, ss, rfl, hq, n, q⟩ := h
  cases ry
  have ea : ∀ its : List Value, its.toArray.any (fun _ => false) = false := fun its => by simp
  rcases hq with hq | hq
  · have ⟨its, r, pl, _⟩ := I.list hq
    refine SeqAt.in_listAt (fun _ => false) pl.isList (fun w hw => ?_) ⟨.bl _, H, I, by rw [ea]; exact rfl, q⟩
    obtain ⟨z, t, rfl⟩ := vals_str r w (by simpa using hw)
    exact noStr_eq I rx n (A := X.A.in1) hu z t
  · have ⟨its, r, pl, _⟩ := I.tuple hq
    refine SeqAt.in_tupleAt (fun _ => false) pl (fun w hw => ?_) ⟨.bl _, H, I, by rw [ea]; exact rfl, q⟩
    obtain ⟨z, t, rfl⟩ := vals_str r w (by simpa using hw)
    exact noStr_eq I rx n (A := X.A.in1) hu z t
theorem op_notInS (hu : X.A.units + 1 < cLine) : OpR X (compareOp .NotIn) (rInS X.K true) := by
  intro pins s σ H x y v u Q I rx ry h; obtain ⟨p, ss, rfl, hq, n, q⟩ := h
  cases ry
  have ea : ∀ its : List Value, its.toArray.any (fun _ => false) = false := fun its => by simp
  rcases hq with hq | hq
  · have ⟨its, r, pl, _⟩ := I.list hq
    refine SeqAt.notIn_listAt (fun _ => false) pl.isList (fun w hw => ?_) ⟨.bl _, H, I, by rw [ea]; exact rfl, q⟩
    obtain ⟨z, t, rfl⟩ := vals_str r w (by simpa using hw)
    exact noStr_eq I rx n (A := X.A.in1) hu z t
  · have ⟨its, r, pl, _⟩ := I.tuple hq
    refine SeqAt.notIn_tupleAt (fun _ => false) pl (fun w hw => ?_) ⟨.bl _, H, I, by rw [ea]; exact rfl, q⟩
    obtain ⟨z, t, rfl⟩ := vals_str r w (by simpa using hw)
    exact noStr_eq I rx n (A := X.A.in1) hu z t
/-- deep data in a tuple -/
def rInT (K : PySem.W.Frag) (neg : Bool) : R2 := fun x y H Q => ∃ d ds, Dp K H x d ∧ Dp K H y (.tuple ds) ∧ SeqAt.shaped d = true ∧ SeqAt.shaped (.tuple ds) = true ∧ Q (.bl (if neg then !ds.any fun z => PyData.eqv z d else ds.any fun z => PyData.eqv z d)) H
theorem op_inT (hu : X.A.units + 65 < cLine) : OpR X (compareOp .In) (rInT X.K false) := by
  intro pins s σ H x y v u Q I rx ry h; obtain ⟨d, ds, hd, he, sd, se, q⟩ := h
  obtain ⟨as, r1⟩ := Dp.reads I d x v hd rx; obtain ⟨bs, r2⟩ := Dp.reads I (.tuple ds) y u he ry
  exact SeqAt.in_tuple_reads r2 r1 (SeqAt.canLay_of_shaped se) (SeqAt.canLay_of_shaped sd) (room_in_shaped sd hu) ⟨.bl _, H, I, rfl, q⟩
theorem op_notInT (hu : X.A.units + 65 < cLine) : OpR X (compareOp .NotIn) (rInT X.K true) := by
  intro pins s σ H x y v u Q I rx ry h; obtain ⟨d, ds, hd, he, sd, se, q⟩ := h
  obtain ⟨as, r1⟩ := Dp.reads I d x v hd rx; obtain ⟨bs, r2⟩ := Dp.reads I (.tuple ds) y u he ry
  exact SeqAt.notIn_tuple_reads r2 r1 (SeqAt.canLay_of_shaped se) (SeqAt.canLay_of_shaped sd) (room_in_shaped sd hu) ⟨.bl _, H, I, rfl, q⟩
def rInDic (neg : Bool) : R2 := fun x y H Q => ∃ a o, y = .ref a ∧ DGetE H a x o ∧ Q (.bl (if neg then !o.isSome else o.isSome)) H
theorem op_inDic (hu : X.A.units + 1 < cLine) : OpR X (compareOp .In) (rInDic false) := by
  intro pins s σ H x y v u Q I rx ry h; obtain ⟨a, o, rfl, g, q⟩ := h
  cases ry
  exact DGetE.isIn hu I g rx fun s' I' => ⟨.bl _, H, I', rfl, q⟩
theorem op_notInDic (hu : X.A.units + 1 < cLine) : OpR X (compareOp .NotIn) (rInDic true) := by
  intro pins s σ H x y v u Q I rx ry h; obtain ⟨a, o, rfl, g, q⟩ := h
  cases ry
  exact DGetE.notIn hu I g rx fun s' I' => ⟨.bl _, H, I', rfl, q⟩
def rInSg (neg : Bool) : R2 := fun x y H Q => ∃ (c : Nat) (z : Str), x = .str ⟨#[c]⟩ ∧ y = .str z ∧ Q (.bl (if neg then !decide (c ∈ z.cps.toList) else decide (c ∈ z.cps.toList))) H
def rInAll (K : PySem.W.Frag) (neg : Bool) : R2 := fun x y H Q => rIn K neg x y H Q ∨ rInS K neg x y H Q ∨ rInT K neg x y H Q ∨ (if neg then rNotInD K x y H Q else rInD K x y H Q) ∨ rInDic neg x y H Q ∨ rInSg neg x y H Q
theorem op_inAll (hu : X.A.units + 65 < cLine) : OpR X (compareOp .In) (rInAll X.K false) := op_in_seq.or ((op_inS (by omega)).or ((op_inT hu).or ((op_inD hu).or ((op_inDic (by omega)).or op_in_sign))))
theorem op_notInAll (hu : X.A.units + 65 < cLine) : OpR X (compareOp .NotIn) (rInAll X.K true) := op_notIn_seq.or ((op_notInS (by omega)).or ((op_notInT hu).or ((op_notInD hu).or ((op_notInDic (by omega)).or op_notIn_sign))))
end
/-! what the data say -/
theorem eqv_str (s t : Str) : PyData.eqv (.str s) (.str t) = (s == t) := by simp [PyData.eqv]
section
variable {K : PySem.W.Frag} {b l : Addr} {O O' : Addr → Prop} {H H' : Hp} {v : V}
theorem Ow.flat {d : D} {A : List Addr} (h : Ow K b O H .frz v d A) (ha : isAtom d = true) : flatV v = true := by
  cases h with
  | tup => cases ha
  | lstF => cases ha
  | dkF => cases ha
  | dtF => cases ha
  | _ => rfl
theorem eqV_eqv {x y : V} {dx dy : D} {A B : List Addr} (hx : Ow K b O H .frz x dx A) (hy : Ow K b O H .frz y dy B) (ax : isAtom dx = true) (ay : isAtom dy = true) : eqV y x = PyData.eqv (py dy) (py dx) := by
  cases hx with
  | tup => cases ax
  | lstF => cases ax
  | dkF => cases ax
  | dtF => cases ax
  | non _ => cases hy with
    | tup => cases ay
    | lstF => cases ay
    | dkF => cases ay
    | dtF => cases ay
    | _ => simp [eqV, py, PyData.eqv]
  | bl _ => cases hy with
    | tup => cases ay
    | lstF => cases ay
    | dkF => cases ay
    | dtF => cases ay
    | _ => simp [eqV, py, PyData.eqv]
  | int _ => cases hy with
    | tup => cases ay
    | lstF => cases ay
    | dkF => cases ay
    | dtF => cases ay
    | _ => simp [eqV, py, PyData.eqv]
  | str _ => cases hy with
    | tup => cases ay
    | lstF => cases ay
    | dkF => cases ay
    | dtF => cases ay
    | _ => simp [eqV, py, PyData.eqv]
theorem OwL.mem_atoms {x : V} {dx : D} (hx : Ow K b O H .frz x dx []) (ax : isAtom dx = true) : ∀ {ds : List D} {vs : List V} {A : List Addr}, OwL K b O H .frz vs ds A → ds.all isAtom = true → vs.all flatV = true ∧ inV x vs = memD dx ds
  | [], vs, A, h, _ => by cases h; exact ⟨rfl, rfl⟩
  | d :: r, vs, A, h, ha => by
    obtain ⟨v, vs', A1, A2, rfl, rfl, p, q⟩ := h.consd_inv
    rw [List.all_cons] at ha
    obtain ⟨a1, a2⟩ := Bool.and_eq_true_iff.mp ha
    obtain ⟨i1, i2⟩ := OwL.mem_atoms hx ax q a2
    refine ⟨by rw [List.all_cons, p.flat a1, i1]; rfl, ?_⟩
    show (eqV v x || inV x vs') = (PyData.eqv (py d) (py dx) || memD dx r)
    rw [eqV_eqv hx p ax a1, i2]
theorem OwL.strs : ∀ {ds : List D} {vs : List V} {A : List Addr}, OwL K b O H .frz vs ds A → ds.all isStr = true → ∃ ss : List Str, ds = ss.map D.str ∧ vs = ss.map V.str
  | [], vs, A, h, _ => by cases h; exact ⟨[], rfl, rfl⟩
  | d :: r, vs, A, h, ha => by
    obtain ⟨v, vs', A1, A2, rfl, rfl, p, q⟩ := h.consd_inv
    rw [List.all_cons] at ha
    obtain ⟨a1, a2⟩ := Bool.and_eq_true_iff.mp ha
    obtain ⟨ss, rfl, rfl⟩ := OwL.strs q a2
    cases d with
    | str z => cases p; exact ⟨z :: ss, rfl, rfl⟩
    | _ => cases a1
theorem memD_strs {d : D} (hd : ∀ z, d ≠ .str z) : ∀ ss : List Str, memD d (ss.map D.str) = false
  | [] => rfl
  | s :: r => by
    show (PyData.eqv (py (.str s)) (py d) || memD d (r.map D.str)) = false
    rw [memD_strs hd r]
    cases d with
    | str z => exact absurd rfl (hd z)
    | _ => simp [py, PyData.eqv]
theorem pyL_map (ds : List D) : pyL ds = ds.map py := by induction ds <;> simp_all [pyL]
theorem any_py (d : D) (ds : List D) : ((pyL ds).any fun z => PyData.eqv z (py d)) = memD d ds := by rw [pyL_map, List.any_map]; rfl
theorem Ow.noStr {d : D} {A : List Addr} (h : Ow K b O H .frz v d A) (hd : ∀ z, d ≠ .str z) : NoStr K H v := by
  cases h with
  | non _ => exact .inl rfl
  | bl _ => exact .inr (.inl ⟨_, rfl⟩)
  | int _ => exact .inr (.inr (.inl ⟨_, rfl⟩))
  | str _ => exact absurd rfl (hd _)
  | tup _ q t => exact .inr (.inr (.inr ⟨_, rfl, .inr (.inl ⟨_, .inl (.inl q)⟩)⟩))
  | lstF _ q t => exact .inr (.inr (.inr ⟨_, rfl, .inl ⟨_, .inl q⟩⟩))
  | dkF _ q _ t => exact .inr (.inr (.inr ⟨_, rfl, .inr (.inr (.inl ⟨_, q⟩))⟩))
  | dtF _ q _ t => exact .inr (.inr (.inr ⟨_, rfl, .inr (.inr (.inr ⟨_, q⟩))⟩))
end
/-- the operation in: the left one frozen, the right one looked at -/
def Op2M (X : Cx) (r : R2) (rm : Rm) (f : D → D → Option D) : Prop :=
  ∀ (b : Addr) (O : Addr → Prop) (H : Hp) (x y : V) (dx dy d : D) (Q : VK) (vb : BO), O b → H b = some vb.1 → (∀ a, O a → H a ≠ none) → Ow X.K b O H .frz x dx [] → Vw X.K b O H y dy → f dx dy = some d →
    (∀ v H' A', Grow H H' → (∀ a ∈ A', H a = none) → A'.Nodup → Rw X.K b (orA O A') H' rm v d A' → Q v H') → r x y H Q
section
variable {X : Cx} {mu : List Md} {a b c : Expr} {f1 f2 f3 : DE} {rm : Rm} {pos : Pos}
theorem Op2M.opn {r : R2} {f : D → D → Option D} (h : Op2M X r rm f) : Opn X (rL2 r) [fz, .vw] rm (sem2 f) := by
  intro b O H A vs ds d Q ob hb dm nb nd hr hs q
  obtain ⟨vb, hb⟩ := hb
  cases hr with
  | cons h1 t =>
    cases t with
    | cons h2 t =>
      cases t
      obtain rfl := Ow.noA.1 h1 (.inr (.inl rfl))
      obtain ⟨rfl, h2⟩ := h2
      simp only [List.append_nil, orN] at *
      exact h b O H _ _ _ _ d Q vb ob hb (fun a z => dm a (.inl z)) h1 h2 hs fun v H' A' g fr nd' rr => q v H' A' g (fun a z => .inr (fr a z)) nd' rr
theorem ev_twoM {e : Expr} {r : R2} {f : D → D → Option D} (hp : PE X e (tOp r (tE X.K mu fz f1) (tE X.K mu .vw f2))) (h : Op2M X r rm f) : EV X mu e rm (d2 f f1 f2) :=
  ev_eq (ev_app hp h.opn fun σ H Q q => tL_two q) fun G B r => d2_op
/-- the two answers at once -/
theorem in_core (neg : Bool) {b : Addr} {O : Addr → Prop} {H : Hp} {x y : V} {dx dy : D} {Q : VK} {k : Bool} (hx : Ow X.K b O H .frz x dx []) (hy : Vw X.K b O H y dy) (e : fIn dx dy = some (.bl k)) (q : Q (.bl (if neg then !k else k)) H) : rInAll X.K neg x y H Q := by
  have seq : ∀ {p : Addr} {vs : List V} {ds : List D}, (SqL X.K H p vs ∨ SqT X.K H p vs) → OwL X.K b O H .frz vs ds [] → okIn dx ds = true → memD dx ds = k →
      (shp dx = true → shp (.lst ds) = true → rInT X.K neg x (.ref p) H Q ∨ (if neg then rNotInD X.K x (.ref p) H Q else rInD X.K x (.ref p) H Q)) → rInAll X.K neg x (.ref p) H Q := fun {p vs ds} hs t ok em deep => by
    unfold okIn at ok
    rcases Bool.or_eq_true_iff.mp ok with ok | ok
    · rcases Bool.or_eq_true_iff.mp ok with ok | ok
      · obtain ⟨a1, a2⟩ := Bool.and_eq_true_iff.mp ok
        obtain ⟨i1, i2⟩ := OwL.mem_atoms hx a1 t a2
        exact .inl ⟨p, vs, rfl, hs, hx.flat a1, i1, by rw [i2, em]; exact q⟩
      · obtain ⟨a1, a2⟩ := Bool.and_eq_true_iff.mp ok
        obtain ⟨ss, rfl, rfl⟩ := OwL.strs t a1
        by_cases hd : ∃ z, dx = .str z
        · obtain ⟨z, rfl⟩ := hd
          have aa : (ss.map D.str).all isAtom = true := by rw [List.all_map]; simp [isAtom, Function.comp_def]
          obtain ⟨i1, i2⟩ := OwL.mem_atoms hx rfl t aa
          exact .inl ⟨p, _, rfl, hs, hx.flat rfl, i1, by rw [i2, em]; exact q⟩
        · have hd' : ∀ z, dx ≠ .str z := fun z e => hd ⟨z, e⟩
          rw [memD_strs hd'] at em
          subst em
          refine .inr (.inl ⟨p, ss, rfl, hs, hx.noStr hd', ?_⟩)
          cases neg <;> exact q
    · obtain ⟨a1, a2⟩ := Bool.and_eq_true_iff.mp ok
      rcases deep a1 a2 with h | h
      · exact .inr (.inr (.inl h))
      · exact .inr (.inr (.inr (.inl h)))
  cases dy with
  | str t =>
    cases hy.str_inv
    cases dx with
    | str s =>
      cases hx
      simp only [fIn] at e
      split at e
      · rename_i c hc
        cases e
        refine .inr (.inr (.inr (.inr (.inr ⟨c, t, ?_, rfl, q⟩))))
        congr 1
        obtain ⟨⟨arr⟩⟩ := s
        simp at hc
        subst hc; rfl
      · cases e
    | _ => simp [fIn] at e
  | tup ds =>
    obtain ⟨p, vs, rfl, hs, t⟩ := hy.tup_inv
    simp only [fIn] at e
    split at e <;> cases e
    rename_i ok
    refine seq (.inr hs) t ok rfl fun s1 s2 => .inl ⟨py dx, pyL ds, Ow.dp.1 hx (by decide) (SeqAt.canLay_of_shaped s1), .tup hs (Ow.dp.2 t (by decide) (SeqAt.canLay_of_shaped s2)), s1, s2, ?_⟩
    rw [any_py]; exact q
  | lst ds =>
    obtain ⟨p, vs, rfl, hs, t⟩ := hy.lst_inv
    simp only [fIn] at e
    split at e <;> cases e
    rename_i ok
    refine seq (.inl (.inl hs)) t ok rfl fun s1 s2 => .inr ?_
    have go : ∀ k', Q (.bl (if neg then !k' else k')) H → k' = memD dx ds → (if neg = true then rNotInD X.K x (.ref p) H Q else rInD X.K x (.ref p) H Q) := fun k' q' ek => by
      subst ek
      cases neg with
      | true =>
        rw [if_pos rfl]
        exact ⟨py dx, pyL ds, Ow.dp.1 hx (by decide) (SeqAt.canLay_of_shaped s1), .lst (.inl hs) (Ow.dp.2 t (by decide) (SeqAt.canLay_of_shaped s2)), s1, s2, by rw [any_py]; exact q'⟩
      | false =>
        rw [if_neg (show ¬ false = true from Bool.false_ne_true)]
        exact ⟨py dx, pyL ds, Ow.dp.1 hx (by decide) (SeqAt.canLay_of_shaped s1), .lst (.inl hs) (Ow.dp.2 t (by decide) (SeqAt.canLay_of_shaped s2)), s1, s2, by rw [any_py]; exact q'⟩
    exact go _ q rfl
  | dic kvs =>
    simp only [fIn] at e
    split at e <;> cases e
    rename_i ok
    obtain ⟨a, rfl, g⟩ := dic_get hy hx ok
    rcases g with ⟨g1, g2⟩ | ⟨d, w, g1, g2, g3⟩
    · rw [g1] at q
      exact .inr (.inr (.inr (.inr (.inl ⟨a, none, rfl, g2, q⟩))))
    · rw [g1] at q
      exact .inr (.inr (.inr (.inr (.inl ⟨a, some w, rfl, g2, q⟩))))
  | _ => simp [fIn] at e
theorem fIn_bl {x y d : D} (h : fIn x y = some d) : ∃ k, d = .bl k := by
  unfold fIn at h
  repeat' split at h
  all_goals first | (cases h; exact ⟨_, rfl⟩) | cases h
theorem o_in : Op2M X (rInAll X.K false) fz fIn := by
  intro b O H x y dx dy d Q vb ob hb dm hx hy e q
  obtain ⟨k, rfl⟩ := fIn_bl e
  exact in_core false hx hy e (q _ _ [] (fun _ _ h => h) (fun a z => nomatch z) List.nodup_nil .bl)
theorem o_notIn : Op2M X (rInAll X.K true) fz fNotIn := by
  intro b O H x y dx dy d Q vb ob hb dm hx hy e q
  unfold fNotIn at e
  cases e1 : fIn dx dy with
  | none => rw [e1] at e; cases e
  | some d1 =>
    obtain ⟨k, rfl⟩ := fIn_bl e1
    rw [e1] at e
    cases e
    exact in_core true hx hy e1 (q _ _ [] (fun _ _ h => h) (fun a z => nomatch z) List.nodup_nil .bl)
theorem ev_in (hu : X.A.units + 65 < cLine) (ha : EV X mu a fz f1) (hb : EV X mu b .vw f2) (hm : behindInMarks .In b = false := by rfl) : EV X mu (.Compare a [.In] [b] pos) fz (d2 fIn f1 f2) := ev_twoM (pe_cmpR (op_inAll hu) ha hb hm) o_in
theorem ev_notIn (hu : X.A.units + 65 < cLine) (ha : EV X mu a fz f1) (hb : EV X mu b .vw f2) (hm : behindInMarks .NotIn b = false := by rfl) : EV X mu (.Compare a [.NotIn] [b] pos) fz (d2 fNotIn f1 f2) := ev_twoM (pe_cmpR (op_notInAll hu) ha hb hm) o_notIn
end
end Xa
/-! XA9: places, slices, displays. -/
namespace Xa
open PySem PySem.Spec
open PyProof.Rows L2

/-- looked at, then frozen -/
def Op2R (X : Cx) (r : R2) (rm : Rm) (f : D → D → Option D) : Prop :=
  ∀ (b : Addr) (O : Addr → Prop) (H : Hp) (x y : V) (dx dy d : D) (Q : VK) (vb : BO), O b → H b = some vb.1 → (∀ a, O a → H a ≠ none) → Vw X.K b O H x dx → Ow X.K b O H .frz y dy [] → f dx dy = some d →
    (∀ v H' A', Grow H H' → (∀ a ∈ A', H a = none) → A'.Nodup → Rw X.K b (orA O A') H' rm v d A' → Q v H') → r x y H Q
section
variable {X : Cx} {mu : List Md} {a b c : Expr} {f1 f2 f3 : DE} {rm : Rm} {pos : Pos}
theorem Op2R.opn {r : R2} {f : D → D → Option D} (h : Op2R X r rm f) : Opn X (rL2 r) [.vw, fz] rm (sem2 f) := by
  intro b O H A vs ds d Q ob hb dm nb nd hr hs q
  obtain ⟨vb, hb⟩ := hb
  cases hr with
  | cons h1 t =>
    cases t with
    | cons h2 t =>
      cases t
      obtain ⟨rfl, h1⟩ := h1
      obtain rfl := Ow.noA.1 h2 (.inr (.inl rfl))
      simp only [List.append_nil, orN] at *
      exact h b O H _ _ _ _ d Q vb ob hb (fun a z => dm a (.inl z)) h1 h2 hs fun v H' A' g fr nd' rr => q v H' A' g (fun a z => .inr (fr a z)) nd' rr
theorem ev_twoR {e : Expr} {r : R2} {f : D → D → Option D} (hp : PE X e (tOp r (tE X.K mu .vw f1) (tE X.K mu fz f2))) (h : Op2R X r rm f) : EV X mu e rm (d2 f f1 f2) :=
  ev_eq (ev_app hp h.opn fun σ H Q q => tL_two q) fun G B r => d2_op
theorem subTail {prog : Program} {w : World} {A : Around} {E : Value → Shared → Prop} {s : Shared} {value slice : Expr} {o i : Value} {T id : String} {Q : Value → Shared → Prop} (hT : s.TypeIs o T)
    (hl : typeLookup (.type T) "__getitem__" = pure (some (.builtin id))) (h : wpAny (model prog w) A (getItem o i) Q E s) (hs : subscripted slice false o i = operate [o, i] (getItem o i)) : wpAny (model prog w) A (subscriptTail value slice o i) Q E s := tail_any hT hl h hs
/-- d[k] with the key there -/
def rIxD (K : PySem.W.Frag) : R2 := fun x y H Q => ∃ a v, x = .ref a ∧ DGetE H a y (some v) ∧ Q v H
theorem ix_dic (hu : X.A.units + 1 < cLine) : IxR X (rIxD X.K) := by
  intro value slice pins s σ H x y v u Q I rx ry h hs; obtain ⟨a, z, rfl, g, q⟩ := h
  cases rx
  rcases g with g | ⟨_, e, _⟩ | ⟨_, e, _⟩
  · exact subTail (dict_typeIs I g) PySem.F.slot_dict_getitem.lookup (d_getItem hu I g ry fun w' s' I' r' => ⟨z, H, I', r', q⟩) hs
  · cases e
  · cases e

def fIdx (x i : D) : Option D := match x with
  | .lst ds => match i with | .int k => atI ds k | _ => none
  | .tup ds => match i with | .int k => atI ds k | _ => none
  | .str z => match i with | .int k => if z.length ≤ sizeLine then (atI z.cps.toList k).map fun c => .str ⟨#[c]⟩ else none | _ => none
  | .dic kvs => if okK kvs i = true then dicFind kvs i else none
  | _ => none
theorem atI_map {α β : Type} {xs : List α} {ys : List β} {k : Int} {d : β} (hl : xs.length = ys.length) (h : atI ys k = some d) : ∃ j : Nat, ys[j]? = some d ∧ ∀ v, xs[j]? = some v → atI xs k = some v := by
  unfold atI at h ⊢
  rw [← hl] at h
  cases e : ixN xs.length k with
  | none =>
      rw [e] at h; cases h
  | some j => rw [e] at h; exact ⟨j, h, fun v e2 => e2⟩
def rIxA (K : PySem.W.Frag) : R2 := fun x y H Q => rIxL K x y H Q ∨ rIxT K x y H Q ∨ rIxS x y H Q ∨ rIxD K x y H Q
theorem o_idx : Op2R X (rIxA X.K) fz fIdx := by
  intro b O H x y dx dy d Q vb ob hb dm hx hy e q
  have fin : ∀ {v : V} {d' : D}, Ow X.K b O H .frz v d' [] → d' = d → Q v H := fun {v d'} h e => by
    subst e; exact q _ _ [] (fun _ _ h => h) (fun a z => nomatch z) List.nodup_nil (by rw [orN]; exact h)
  unfold fIdx at e
  split at e
  · obtain ⟨p, vs, rfl, hs, t⟩ := hx.lst_inv
    split at e
    · cases hy
      obtain ⟨j, h1, h2⟩ := atI_map t.len e
      obtain ⟨v, h3, h4⟩ := t.get h1
      exact .inl ⟨p, vs, _, v, rfl, rfl, .inl hs, h2 v h3, fin h4 rfl⟩
    · cases e
  · obtain ⟨p, vs, rfl, hs, t⟩ := hx.tup_inv
    split at e
    · cases hy
      obtain ⟨j, h1, h2⟩ := atI_map t.len e
      obtain ⟨v, h3, h4⟩ := t.get h1
      exact .inr (.inl ⟨p, vs, _, v, rfl, rfl, hs, h2 v h3, fin h4 rfl⟩)
    · cases e
  · cases hx.str_inv
    split at e
    · cases hy
      split at e
      · rename_i hz
        cases e2 : atI (Array.toList (Str.cps _)) _ with
        | none => rw [e2] at e; cases e
        | some c =>
          rw [e2] at e
          exact .inr (.inr (.inl ⟨_, _, c, rfl, rfl, hz, e2, fin (.str (by decide)) (Option.some.inj e)⟩))
      · cases e
    · cases e
  · split at e
    · rename_i ok
      obtain ⟨a, rfl, g⟩ := dic_get hx hy ok
      rcases g with ⟨g1, g2⟩ | ⟨d', w, g1, g2, g3⟩
      · rw [g1] at e; cases e
      · rw [g1] at e; cases e
        exact .inr (.inr (.inr ⟨a, w, rfl, g2, fin g3 rfl⟩))
    · cases e
  · cases e
theorem ev_idx (hu : X.A.units + 1 < cLine) (ha : EV X mu a .vw f1) (hb : EV X mu b fz f2) (hs : PlainIx b := by intro _ _; rfl) : EV X mu (.Subscript a b pos) fz (d2 fIdx f1 f2) :=
  ev_twoR (pe_ix (ix_list.or (ix_tup.or (ix_str.or (ix_dic hu)))) ha hb hs) o_idx

/-! ### slices -/
abbrev DP := Gam → Bag → Option (Option Int × Bag)
def pNo : DP := fun _ B => some (none, B)
def pAt (f : DE) : DP := fun G B => (f G B).bind fun p => match p.1 with | .int i => some (some i, p.2) | _ => none
def tP (K : PySem.W.Frag) (mu : List Md) (f : DP) : TO := fun σ H Q => ∃ (g : Bg) (O : Addr → Prop) (G : Gam) (B : Bag) (o : Option Int) (B' : Bag), Fr K g O mu G σ H ∧ BagAt g.b g.l H B ∧ f G B = some (o, B') ∧
  ∀ H', Ext g.b H H' → BagAt g.b g.l H' B' → Q o H'
def EP' (X : Cx) (mu : List Md) (e : Option Expr) (f : DP) : Prop := PO X e (tP X.K mu f)
theorem po_imp {X : Cx} {e : Option Expr} {t t' : TO} (h : PO X e t) (w : ∀ σ H Q, t' σ H Q → t σ H Q) : PO X e t' := ⟨fun pins s σ H Q I q => h.run pins s σ H Q I (w σ H Q q)⟩
theorem ep_no : EP' X mu none pNo := po_imp po_none fun σ H Q ⟨g, O, G, B, o, B', F, hb, e, q⟩ => by
  cases e; exact q H (fun _ _ _ h => h) hb
theorem ep_at {e : Expr} (h : EV X mu e fz f1) : EP' X mu (some e) (pAt f1) := po_imp (po_some h) fun σ H Q ⟨g, O, G, B, o, B', F, hb, e, q⟩ => by
  unfold pAt at e
  cases e1 : f1 G B with
  | none => rw [e1] at e; cases e
  | some p =>
    obtain ⟨d, B1⟩ := p
    rw [e1, Option.bind_some] at e
    cases d with
    | int i =>
      cases e
      exact ⟨g, O, G, B, _, _, F, hb, e1, fun v H' A Gt => ⟨i, Gt.rw_.int_inv, q H' Gt.ext Gt.bag⟩⟩
    | _ => cases e
def cutD {α : Type} (l : List α) (lo hi : Option Int) : List α := (l.drop (HT.sIx l.length 0 lo)).take (HT.sIx l.length l.length hi - HT.sIx l.length 0 lo)
def fCut (x : D) (lo hi : Option Int) : Option D := match x with
  | .lst ds => some (.lst (cutD ds lo hi))
  | .tup ds => some (.tup (cutD ds lo hi))
  | .str z => if z.length ≤ sizeLine then some (.str (cutS z lo hi)) else none
  | _ => none
def dCut (f : DE) (lo hi : DP) : DE := fun G B => (f G B).bind fun p => (lo G p.2).bind fun q => (hi G q.2).bind fun r => (fCut p.1 q.1 r.1).map fun d => (d, r.2)
def rSlAll (K : PySem.W.Frag) : V → Option Int → Option Int → Hp → VK → Prop := fun x lo hi H Q => rSlL K x lo hi H Q ∨ rSlA K x lo hi H Q ∨ rSlS x lo hi H Q
theorem sl_all : SlR X (rSlAll X.K) := sl_list.or (sl_tupA.or sl_str)
/-- by values -/
theorem cut_core {O : Addr → Prop} {b : Addr} {H : Hp} {x : V} {dx d : D} {lo hi : Option Int} {Q : VK} {vb : BO} (ob : O b) (hb : H b = some vb.1) (dm : ∀ a, O a → H a ≠ none) (hx : Ow X.K b O H .frz x dx [] ∨ (Vw X.K b O H x dx ∧ ∀ ds, dx ≠ .tup ds)) (e : fCut dx lo hi = some d)
    (q : ∀ v H' A', Grow H H' → (∀ a ∈ A', H a = none) → A'.Nodup → Rw X.K b (orA O A') H' fz v d A' → Q v H') : rSlAll X.K x lo hi H Q := by
  have vw : Vw X.K b O H x dx := hx.elim .of (·.1)
  unfold fCut at e
  split at e
  · obtain ⟨p, vs, rfl, hs, t⟩ := vw.lst_inv
    cases e
    refine .inl ⟨p, vs, rfl, .inl hs, fun a na => q _ _ [] (grow_upd na) (fun a z => nomatch z) List.nodup_nil (new_lstF ob hb dm na ?_)⟩
    unfold cutV cutD
    rw [← t.len]
    exact (t.dropN _).takeN _
  · rename_i ds
    rcases hx with hx | hx
    · obtain ⟨p, vs, rfl, hs, t⟩ := hx.tupF_inv
      cases e
      refine .inr (.inl ⟨p, vs, rfl, .inl (.inl hs), fun hw => q _ _ [] (fun _ _ h => h) (fun a z => nomatch z) List.nodup_nil ?_, fun _ a na => q _ _ [] (grow_upd na) (fun a z => nomatch z) List.nodup_nil (new_tup ob hb na ?_)⟩)
      · rw [orN]
        have : cutD ds lo hi = ds := by
          unfold cutD
          rw [← t.len, hw.1, hw.2, List.drop_zero, Nat.sub_zero, t.len, List.take_length]
        rw [this]
        exact .tup (by decide) hs t
      · unfold cutV cutD
        rw [← t.len]
        exact (t.dropN _).takeN _
    · exact absurd rfl (hx.2 ds)
  · cases vw.str_inv
    split at e <;> cases e
    rename_i hz
    exact .inr (.inr ⟨_, rfl, hz, q _ _ [] (fun _ _ h => h) (fun a z => nomatch z) List.nodup_nil .str⟩)
  · cases e
theorem slice_imp {rms : Rm} {lo hi : DP} (hr : rms = fz ∨ rms = .vw) (f : DE) (hf : rms = .vw → ∀ G B d B', f1 G B = some (d, B') → ∀ ds, d ≠ .tup ds) (σ : L2.St) (H : Hp) (Q : VK) (h : tE X.K mu fz (dCut f1 lo hi) σ H Q) : tSl (rSlAll X.K) (tE X.K mu rms f1) (tP X.K mu lo) (tP X.K mu hi) σ H Q := by
  obtain ⟨g, O, G, B, d, B', F, hb, e, q⟩ := h
  unfold dCut at e
  cases e1 : f1 G B with
  | none => rw [e1] at e; cases e
  | some p1 =>
    obtain ⟨dx, B1⟩ := p1
    cases e2 : lo G B1 with
    | none => simp [e1, e2] at e
    | some p2 =>
      obtain ⟨ol, B2⟩ := p2
      cases e3 : hi G B2 with
      | none => simp [e1, e2, e3] at e
      | some p3 =>
        obtain ⟨oh, B3⟩ := p3
        simp only [e1, e2, e3, Option.bind_some] at e
        cases e4 : fCut dx ol oh with
        | none => rw [e4] at e; cases e
        | some d' =>
          rw [e4] at e
          cases e
          refine ⟨g, O, G, B, dx, B1, F, hb, e1, fun v H1 A G1 => ?_⟩
          have hA : A = [] := by
            rcases hr with rfl | rfl
            · exact Ow.noA.1 G1.rw_ (.inr (.inl rfl))
            · exact G1.rw_.1
          subst hA
          have F1 : Fr X.K g O mu G σ H1 := F.step0 hb G1.ext G1.bag
          refine ⟨g, O, G, B1, ol, B2, F1, G1.bag, e2, fun H2 x2 b2 => ?_⟩
          have F2 := F1.step0 G1.bag x2 b2
          refine ⟨g, O, G, B2, oh, _, F2, b2, e3, fun H3 x3 b3 => ?_⟩
          have F3 := F2.step0 b2 x3 b3
          have x13 : Ext g.b H1 H3 := fun a o n z => x3 a o n (x2 a o n z)
          have off : Off O g.b H1 H3 := G1.bag.off F.ob x13
          have rw3 : Rw X.K g.b O H3 rms v dx [] := by
            have := G1.rw_
            rw [orN] at this
            exact this.off off (fun a _ => Iff.rfl) (fun z => nomatch z)
          refine cut_core F.ob b3.box.choose_spec F3.dom ?_ e4 fun v' H' A' gr fr nd rr => q v' H' A' ⟨fun a o n z => gr a o (x13 a o n (G1.ext a o n z)), fun a z => ?_, nd, b3.grow gr, rr⟩
          · rcases hr with rfl | rfl
            · exact .inl rw3
            · exact .inr ⟨rw3.2, hf rfl G B dx B1 e1⟩
          · cases hq : H a with
            | none => rfl
            | some o =>
              have := fr a z
              by_cases en : a = g.b
              · subst en; exact (b3.ne this).elim
              · rw [x13 a o en (G1.ext a o en hq)] at this; cases this
theorem ev_slice {lo hi : Option Expr} {p2 : Pos} {ul uh : DP} (ha : EV X mu a fz f1) (hl : EP' X mu lo ul) (hh : EP' X mu hi uh) : EV X mu (.Subscript a (.Slice lo hi none p2) pos) fz (dCut f1 ul uh) :=
  pe_imp (pe_slice sl_all ha hl hh) fun σ H Q => slice_imp (.inl rfl) f1 (fun e => by cases e) σ H Q

/-! ### displays -/
def semTup : List D → Option D := fun ds => if ds.length ≤ sizeLine then some (.tup ds) else none
def semLst : List D → Option D := fun ds => if ds.length ≤ sizeLine then some (.lst ds) else none
theorem RwL.own {K : PySem.W.Frag} {b : Addr} {O : Addr → Prop} {H : Hp} {m : Md} : ∀ {n : Nat} {vs : List V} {ds : List D} {A : List Addr}, RwL K b O H (List.replicate n (.val m)) vs ds A → OwL K b O H m vs ds A
  | 0, vs, ds, A, h => by cases h; exact .nil
  | n + 1, vs, ds, A, h => by cases h with | cons p q => exact .cons p (RwL.own q)
theorem opn_tup {n : Nat} {m : Md} (hm : m ≠ .bag) : Opn X (fun vs H Q => vs.length ≤ sizeLine ∧ ∀ p, H p = none → Q (.ref p) (upd H p (.tup vs))) (List.replicate n (.val m)) (.val m) semTup := by
  intro b O H A vs ds d Q ob hb dm nb nd hr hs q
  obtain ⟨vb, hb⟩ := hb
  have t := RwL.own hr
  unfold semTup at hs
  split at hs <;> cases hs
  rename_i hz
  refine ⟨by rw [t.len]; exact hz, fun p hp => q _ _ A (grow_upd hp) (fun a z => .inl z) nd (Ow.tup hm upd_same (t.grow (.inl ob) hb (grow_upd hp) nb fun a _ => Iff.rfl))⟩
theorem opn_lst {n : Nat} {m : Md} (hm : m ≠ .bag) : Opn X (fun vs H Q => vs.length ≤ sizeLine ∧ ∀ p, H p = none → Q (.ref p) (upd H p (.lst vs))) (List.replicate n (.val m)) (.val (.own m)) semLst := by
  intro b O H A vs ds d Q ob hb dm nb nd hr hs q
  obtain ⟨vb, hb⟩ := hb
  have t := RwL.own hr
  unfold semLst at hs
  split at hs <;> cases hs
  rename_i hz
  refine ⟨by rw [t.len]; exact hz, fun p hp => q _ _ (p :: A) (grow_upd hp) (fun a z => (List.mem_cons.mp z).elim (fun e => .inr (e ▸ hp)) .inl) (List.nodup_cons.mpr ⟨fun z => dm p (.inr z) hp, nd⟩) ?_⟩
  refine Ow.lstO hm (.inr List.mem_cons_self) upd_same (t.grow (.inl ob) hb (grow_upd hp) nb fun a n => ?_)
  exact ⟨fun z => z.elim .inl fun z => (List.mem_cons.mp z).elim (fun e => absurd hp (e ▸ n)) .inr, fun z => z.elim .inl fun z => .inr (List.mem_cons_of_mem _ z)⟩
theorem ev_tup {es : List Expr} {x1 : _} {fs : DA} {n : Nat} {m : Md} (h : AV X mu es (List.replicate n (.val m)) fs) (hm : m ≠ .bag := by decide) : EV X mu (.Tuple es x1 pos) (.val m) (dOp semTup fs) := ev_app (pe_tup h) (opn_tup hm) fun _ _ _ q => q
theorem ev_lst {es : List Expr} {fs : DA} {n : Nat} {m : Md} (h : AV X mu es (List.replicate n (.val m)) fs) (hm : m ≠ .bag := by decide) : EV X mu (.List es pos) (.val (.own m)) (dOp semLst fs) := ev_app (pe_lst h) (opn_lst hm) fun _ _ _ q => q
/-! constants -/
def dC (d : D) : DE := fun _ B => some (d, B)
theorem ev_const {e : Expr} {v : V} {d : D} {m : Md} (hp : PE X e (tC v)) (h : ∀ K b O H, Ow K b O H m v d []) : EV X mu e (.val m) (dC d) := pe_imp hp fun σ H Q ⟨g, O, G, B, d', B', F, hb, e1, q⟩ => by
  cases e1
  exact q v H [] ⟨fun _ _ _ h => h, (fun a z => nomatch z), List.nodup_nil, hb, h _ _ _ _⟩
theorem ev_int {i : Int} {j p : _} {m : Md} (hm : m ≠ .bag := by decide) : EV X mu (.Constant (.int i) j p) (.val m) (dC (.int i)) := ev_const pe_int fun _ _ _ _ => .int hm
theorem ev_bl {i : Bool} {j p : _} {m : Md} (hm : m ≠ .bag := by decide) : EV X mu (.Constant (.bool i) j p) (.val m) (dC (.bl i)) := ev_const pe_bl fun _ _ _ _ => .bl hm
theorem ev_str {i : Str} {j p : _} {m : Md} (hm : m ≠ .bag := by decide) : EV X mu (.Constant (.str i) j p) (.val m) (dC (.str i)) := ev_const pe_str fun _ _ _ _ => .str hm
theorem ev_non {j p : _} {m : Md} (hm : m ≠ .bag := by decide) : EV X mu (.Constant .none j p) (.val m) (dC .non) := ev_const pe_non fun _ _ _ _ => .non hm
end
end Xa
/-! XA10: built-in functions. -/
namespace Xa
open PySem PySem.Spec
open PyProof.Rows L2
section
variable {X : Cx} {mu : List Md} {a b c : Expr} {f1 f2 f3 : DE} {rm : Rm} {pos p : Pos} {x : Str} {id T : String} {r : List V → Hp → VK → Prop} {e : Expr} {es : List Expr} {fs : DA} {rms : List Rm} {sem : List D → Option D}
/-- f(..), f a built-in -/
theorem ev_callB (hc : CallR X (.builtin id) r) (ho : Opn X r rms rm sem) (hg : Gl X x) (hm : X.mg x = none) (hv : bootBuiltins x = some (.builtin id)) (ha : AV X mu (e :: es) rms fs) (hn : x ≠ "__name__" := by decide) (hdb : (x == ("__debug__" : Str)) = false := by decide)
    (he : starEach (e :: es) X.env = (false, eval e X.env) :: starEach es X.env := by rfl) (hpl : (backTo pos (starEach es X.env)).any (·.1) = false := by rfl) : EV X mu (.Call (.Name x p) (e :: es) [] pos) rm (dOp sem fs) :=
  ev_app (pe_callB hc hg hm hv ha hn hdb he hpl) ho fun _ _ _ q => q
theorem ev_callTy (hc : CallR X (.type T) r) (ho : Opn X r rms rm sem) (hg : Gl X x) (hm : X.mg x = none) (hv : bootBuiltins x = some (.type T)) (ha : AV X mu (e :: es) rms fs) (hn : x ≠ "__name__" := by decide) (hdb : (x == ("__debug__" : Str)) = false := by decide)
    (he : starEach (e :: es) X.env = (false, eval e X.env) :: starEach es X.env := by rfl) (hpl : (backTo pos (starEach es X.env)).any (·.1) = false := by rfl) : EV X mu (.Call (.Name x p) (e :: es) [] pos) rm (dOp sem fs) :=
  ev_app (pe_callTy hc hg hm hv ha hn hdb he hpl) ho fun _ _ _ q => q
/-- a rule of one argument -/
theorem opn1 {f : D → Option D} (h : Op1 X (fun v H Q => r [v] H Q) rm f) : Opn X r [.vw] rm (sem1 f) := by
  intro b O H A vs ds d Q ob hb dm nb nd hr hs q
  have := h.opn b O H A vs ds d Q ob hb dm nb nd hr hs q
  cases hr with
  | cons h1 t => cases t; exact this
theorem opn1F {f : D → Option D} (h : Op1F X (fun v H Q => r [v] H Q) rm f) : Opn X r [fz] rm (sem1 f) := by
  intro b O H A vs ds d Q ob hb dm nb nd hr hs q
  have := h.opn b O H A vs ds d Q ob hb dm nb nd hr hs q
  cases hr with
  | cons h1 t => cases t; exact this
theorem opn2 {f : D → D → Option D} (h : Op2 X (fun v w H Q => r [v, w] H Q) rm f) : Opn X r [.vw, .vw] rm (sem2 f) := by
  intro b O H A vs ds d Q ob hb dm nb nd hr hs q
  have := h.opn b O H A vs ds d Q ob hb dm nb nd hr hs q
  cases hr with
  | cons h1 t => cases t with | cons h2 t => cases t; exact this
theorem ev_call1 {f : D → Option D} (hc : CallR X (.builtin id) r) (ho : Op1 X (fun v H Q => r [v] H Q) rm f) (hg : Gl X x) (hm : X.mg x = none) (hv : bootBuiltins x = some (.builtin id)) (ha : EV X mu a .vw f1) (hn : x ≠ "__name__" := by decide) (hdb : (x == ("__debug__" : Str)) = false := by decide)
    (he : starEach [a] X.env = (false, eval a X.env) :: starEach [] X.env := by rfl) (hpl : (backTo pos (starEach [] X.env)).any (·.1) = false := by rfl) : EV X mu (.Call (.Name x p) [a] [] pos) rm (d1 f f1) :=
  ev_eq (ev_callB hc (opn1 ho) hg hm hv (av_cons ha av_nil he) hn hdb he hpl) fun _ _ _ => d1_op
theorem ev_call2 {f : D → D → Option D} (hc : CallR X (.builtin id) r) (ho : Op2 X (fun v w H Q => r [v, w] H Q) rm f) (hg : Gl X x) (hm : X.mg x = none) (hv : bootBuiltins x = some (.builtin id)) (ha : EV X mu a .vw f1) (hb : EV X mu b .vw f2) (hn : x ≠ "__name__" := by decide) (hdb : (x == ("__debug__" : Str)) = false := by decide)
    (he : starEach [a, b] X.env = (false, eval a X.env) :: starEach [b] X.env := by rfl) (he2 : starEach [b] X.env = (false, eval b X.env) :: starEach [] X.env := by rfl) (hpl : (backTo pos (starEach [b] X.env)).any (·.1) = false := by rfl) : EV X mu (.Call (.Name x p) [a, b] [] pos) rm (d2 f f1 f2) :=
  ev_eq (ev_callB hc (opn2 ho) hg hm hv (av_cons ha (av_cons hb av_nil he2) he) hn hdb he hpl) fun _ _ _ => d2_op
theorem ev_ty1 {f : D → Option D} (hc : CallR X (.type T) r) (ho : Op1 X (fun v H Q => r [v] H Q) rm f) (hg : Gl X x) (hm : X.mg x = none) (hv : bootBuiltins x = some (.type T)) (ha : EV X mu a .vw f1) (hn : x ≠ "__name__" := by decide) (hdb : (x == ("__debug__" : Str)) = false := by decide)
    (he : starEach [a] X.env = (false, eval a X.env) :: starEach [] X.env := by rfl) (hpl : (backTo pos (starEach [] X.env)).any (·.1) = false := by rfl) : EV X mu (.Call (.Name x p) [a] [] pos) rm (d1 f f1) :=
  ev_eq (ev_callTy hc (opn1 ho) hg hm hv (av_cons ha av_nil he) hn hdb he hpl) fun _ _ _ => d1_op
theorem ev_ty1F {f : D → Option D} (hc : CallR X (.type T) r) (ho : Op1F X (fun v H Q => r [v] H Q) rm f) (hg : Gl X x) (hm : X.mg x = none) (hv : bootBuiltins x = some (.type T)) (ha : EV X mu a fz f1) (hn : x ≠ "__name__" := by decide) (hdb : (x == ("__debug__" : Str)) = false := by decide)
    (he : starEach [a] X.env = (false, eval a X.env) :: starEach [] X.env := by rfl) (hpl : (backTo pos (starEach [] X.env)).any (·.1) = false := by rfl) : EV X mu (.Call (.Name x p) [a] [] pos) rm (d1 f f1) :=
  ev_eq (ev_callTy hc (opn1F ho) hg hm hv (av_cons ha av_nil he) hn hdb he hpl) fun _ _ _ => d1_op

/-! len -/
def fLen (x : D) : Option D := match x with
  | .lst ds => some (.int ds.length)
  | .tup ds => some (.int ds.length)
  | .str z => if z.length ≤ sizeLine then some (.int z.length) else none
  | .dic kvs => some (.int kvs.length)
  | _ => none
theorem call_lenDic : CallR X (.builtin "len") (fun v H Q => ∃ x, v = [.ref x] ∧ ((∃ es : List (Key × V), Rd H x (.dK es) ∧ Q (.int es.length) H) ∨ ∃ es : List (List Key × V), Rd H x (.dT es) ∧ Q (.int es.length) H)) := by
  intro pins s σ H xs us Q I r h; obtain ⟨x, rfl, h⟩ := h
  obtain ⟨u, rfl, ru⟩ := vals1 r; cases ru
  rcases h with ⟨es, ha, q⟩ | ⟨es, ha, q⟩
  · exact d_len I ha fun t s' I' => ⟨.int es.length, H, I', ⟨t, rfl⟩, q⟩
  · obtain ⟨z, hd, ys, rel, dd⟩ := dt_rd I.hok ha
    have hl : es.length = ys.length := Paired.length rel
    have zz : (ys.length : Int) < 2 ^ 63 := by rw [← hl]; rw [sizeLine_eq] at z; omega
    refine call_len_dictH hd dd zz ?_
    rw [← hl]
    exact ⟨.int es.length, H, I.tok _, ⟨_, rfl⟩, q⟩
theorem zipLen {κ : Type} {kk : κ → D} {K : PySem.W.Frag} {b : Addr} {O : Addr → Prop} {H : Hp} {m : Md} {es : List (κ × V)} {ds : List D} {A : List Addr} (t : OwL K b O H m (es.map (·.2)) ds A) : ((es.map fun p => kk p.1).zip ds).length = es.length := by
  have := t.len
  rw [List.length_map] at this
  rw [List.length_zip, List.length_map, ← this, Nat.min_self]
theorem Vw.dicLen {K : PySem.W.Frag} {b : Addr} {O : Addr → Prop} {H : Hp} {x : V} {kvs : List (D × D)} (h : Vw K b O H x (.dic kvs)) : ∃ a, x = .ref a ∧ ((∃ es : List (Key × V), Rd H a (.dK es) ∧ kvs.length = es.length) ∨ ∃ es : List (List Key × V), Rd H a (.dT es) ∧ kvs.length = es.length) := by
  cases h with
  | of h =>
    cases h with
    | dkF _ r _ t => exact ⟨_, rfl, .inl ⟨_, r, zipLen t⟩⟩
    | dtF _ r _ t => exact ⟨_, rfl, .inr ⟨_, r, zipLen t⟩⟩
  | dk _ r t => exact ⟨_, rfl, .inl ⟨_, .inl r, zipLen t⟩⟩
  | dt _ r t => exact ⟨_, rfl, .inr ⟨_, .inl r, zipLen t⟩⟩
theorem CallR.or2 {f : Value} {r1 r2 : List V → Hp → VK → Prop} (h1 : CallR X f r1) (h2 : CallR X f r2) : CallR X f (fun v H Q => r1 v H Q ∨ r2 v H Q) := fun pins s σ H xs us Q I r h => h.elim (h1 pins s σ H xs us Q I r) (h2 pins s σ H xs us Q I r)
theorem o_len : Op1 X (fun v H Q => (∃ x n, [v] = [x] ∧ LenV X.K x H n ∧ Q (.int n) H) ∨ ∃ x, [v] = [.ref x] ∧ ((∃ es : List (Key × V), Rd H x (.dK es) ∧ Q (.int es.length) H) ∨ ∃ es : List (List Key × V), Rd H x (.dT es) ∧ Q (.int es.length) H)) fz fLen := by
  intro b O H x dx d Q vb ob hb dm hx e q
  have fin : ∀ {n : Nat}, D.int n = d → Q (.int n) H := fun e => by subst e; exact q _ _ [] (fun _ _ h => h) (fun a z => nomatch z) List.nodup_nil .int
  unfold fLen at e
  split at e
  · obtain ⟨p, vs, rfl, hs, t⟩ := hx.lst_inv
    cases e
    exact .inl ⟨_, _, rfl, .inl ⟨vs, .inl hs, rfl⟩, fin (by rw [t.len])⟩
  · obtain ⟨p, vs, rfl, hs, t⟩ := hx.tup_inv
    cases e
    exact .inl ⟨_, _, rfl, .inr ⟨vs, hs, rfl⟩, fin (by rw [t.len])⟩
  · cases hx.str_inv
    split at e <;> cases e
    rename_i hz
    exact .inl ⟨_, _, rfl, ⟨hz, rfl⟩, fin rfl⟩
  · obtain ⟨a, rfl, ⟨es, r, n⟩ | ⟨es, r, n⟩⟩ := hx.dicLen
    · cases e
      exact .inr ⟨a, rfl, .inl ⟨es, r, fin (by rw [n])⟩⟩
    · cases e
      exact .inr ⟨a, rfl, .inr ⟨es, r, fin (by rw [n])⟩⟩
  · cases e
theorem ev_len (hg : Gl X "len") (hm : X.mg "len" = none) (ha : EV X mu a .vw f1) (he : starEach [a] X.env = (false, eval a X.env) :: starEach [] X.env := by rfl) (hpl : (backTo pos (starEach [] X.env)).any (·.1) = false := by rfl) : EV X mu (.Call (.Name "len" p) [a] [] pos) fz (d1 fLen f1) :=
  ev_call1 (CallR.or2 call_len call_lenDic) o_len hg hm PySem.boot_len ha (by decide) (by decide) he hpl
/-! abs, int, min, max -/
def fAbs (x : D) : Option D := match x with | .int i => some (.int (if i < 0 then -i else i)) | _ => none
theorem ev_abs (hg : Gl X "abs") (hm : X.mg "abs" = none) (ha : EV X mu a .vw f1) (he : starEach [a] X.env = (false, eval a X.env) :: starEach [] X.env := by rfl) (hpl : (backTo pos (starEach [] X.env)).any (·.1) = false := by rfl) : EV X mu (.Call (.Name "abs" p) [a] [] pos) fz (d1 fAbs f1) :=
  ev_call1 call_abs (by
    intro b O H x dx d Q vb ob hb dm hx e q
    unfold fAbs at e
    split at e <;> cases e
    cases hx.int_inv
    exact ⟨_, rfl, q _ _ [] (fun _ _ h => h) (fun a z => nomatch z) List.nodup_nil .int⟩) hg hm (by decide +kernel) ha (by decide) (by decide) he hpl
def fInt (x : D) : Option D := match x with | .int i => some (.int i) | .bl k => some (.int (if k then 1 else 0)) | _ => none
theorem ev_intC (hg : Gl X "int") (hm : X.mg "int" = none) (ha : EV X mu a .vw f1) (he : starEach [a] X.env = (false, eval a X.env) :: starEach [] X.env := by rfl) (hpl : (backTo pos (starEach [] X.env)).any (·.1) = false := by rfl) : EV X mu (.Call (.Name "int" p) [a] [] pos) fz (d1 fInt f1) :=
  ev_ty1 call_int1 (by
    intro b O H x dx d Q vb ob hb dm hx e q
    unfold fInt at e
    split at e <;> cases e
    · cases hx.int_inv
      exact .inl ⟨_, rfl, q _ _ [] (fun _ _ h => h) (fun a z => nomatch z) List.nodup_nil .int⟩
    · cases hx.bl_inv
      exact .inr ⟨_, rfl, q _ _ [] (fun _ _ h => h) (fun a z => nomatch z) List.nodup_nil .int⟩) hg hm (by decide +kernel) ha (by decide) (by decide) he hpl
def fMin (x y : D) : Option D := match x, y with | .int i, .int j => some (.int (if j < i then j else i)) | _, _ => none
def fMax (x y : D) : Option D := match x, y with | .int i, .int j => some (.int (if j > i then j else i)) | _, _ => none
theorem ev_min (hc : X.calm = true) (hg : Gl X "min") (hm : X.mg "min" = none) (ha : EV X mu a .vw f1) (hb : EV X mu b .vw f2) (he : starEach [a, b] X.env = (false, eval a X.env) :: starEach [b] X.env := by rfl) (he2 : starEach [b] X.env = (false, eval b X.env) :: starEach [] X.env := by rfl) (hpl : (backTo pos (starEach [b] X.env)).any (·.1) = false := by rfl) :
    EV X mu (.Call (.Name "min" p) [a, b] [] pos) fz (d2 fMin f1 f2) := ev_call2 (call_min2 hc) (by
    intro b O H x y dx dy d Q vb ob hb dm hx hy e q
    unfold fMin at e
    split at e <;> cases e
    cases hx.int_inv; cases hy.int_inv
    exact ⟨_, _, rfl, q _ _ [] (fun _ _ h => h) (fun a z => nomatch z) List.nodup_nil .int⟩) hg hm (by decide +kernel) ha hb (by decide) (by decide) he he2 hpl
theorem ev_max (hc : X.calm = true) (hg : Gl X "max") (hm : X.mg "max" = none) (ha : EV X mu a .vw f1) (hb : EV X mu b .vw f2) (he : starEach [a, b] X.env = (false, eval a X.env) :: starEach [b] X.env := by rfl) (he2 : starEach [b] X.env = (false, eval b X.env) :: starEach [] X.env := by rfl) (hpl : (backTo pos (starEach [b] X.env)).any (·.1) = false := by rfl) :
    EV X mu (.Call (.Name "max" p) [a, b] [] pos) fz (d2 fMax f1 f2) := ev_call2 (call_max2 hc) (by
    intro b O H x y dx dy d Q vb ob hb dm hx hy e q
    unfold fMax at e
    split at e <;> cases e
    cases hx.int_inv; cases hy.int_inv
    exact ⟨_, _, rfl, q _ _ [] (fun _ _ h => h) (fun a z => nomatch z) List.nodup_nil .int⟩) hg hm (by decide +kernel) ha hb (by decide) (by decide) he he2 hpl
/-! all -/
def fAll (x : D) : Option D := match x with
  | .lst ds => if ds.all (fun d => match d with | .bl _ => true | _ => false) = true then some (.bl (ds.all fun d => match d with | .bl k => k | _ => false)) else none
  | _ => none
theorem OwL.bls {K : PySem.W.Frag} {b : Addr} {O : Addr → Prop} {H : Hp} {m : Md} : ∀ {ds : List D} {vs : List V} {A : List Addr}, OwL K b O H m vs ds A → ds.all (fun d => match d with | .bl _ => true | _ => false) = true → ∃ bs : List Bool, vs = bs.map V.bl ∧ ds = bs.map D.bl
  | [], vs, A, h, _ => by cases h; exact ⟨[], rfl, rfl⟩
  | d :: r, vs, A, h, ha => by
    obtain ⟨v, vs', A1, A2, rfl, rfl, p, q⟩ := h.consd_inv
    rw [List.all_cons] at ha
    obtain ⟨a1, a2⟩ := Bool.and_eq_true_iff.mp ha
    obtain ⟨bs, rfl, rfl⟩ := OwL.bls q a2
    cases d with
    | bl k => cases p; exact ⟨k :: bs, rfl, rfl⟩
    | _ => cases a1
theorem ev_all (hc : X.calm = true) (hg : Gl X "all") (hm : X.mg "all" = none) (ha : EV X mu a .vw f1) (he : starEach [a] X.env = (false, eval a X.env) :: starEach [] X.env := by rfl) (hpl : (backTo pos (starEach [] X.env)).any (·.1) = false := by rfl) : EV X mu (.Call (.Name "all" p) [a] [] pos) fz (d1 fAll f1) :=
  ev_call1 (cr_all hc) (by
    intro b O H x dx d Q vb ob hb dm hx e q
    unfold fAll at e
    split at e
    · obtain ⟨p, vs, rfl, hs, t⟩ := hx.lst_inv
      split at e <;> cases e
      rename_i hal
      obtain ⟨bs, rfl, rfl⟩ := OwL.bls t hal
      refine ⟨p, bs, rfl, .inl hs, ?_⟩
      have := q (.bl (bs.all id)) H [] (fun _ _ h => h) (fun a z => nomatch z) List.nodup_nil (by
        have : ((bs.map D.bl).all fun d => match d with | .bl k => k | _ => false) = bs.all id := by rw [List.all_map]; rfl
        rw [this]; exact .bl)
      exact this
    · cases e) hg hm (by decide +kernel) ha (by decide) (by decide) he hpl
/-! tuple, list -/
def fTuple (x : D) : Option D := match x with | .lst ds => some (.tup ds) | .tup ds => some (.tup ds) | _ => none
theorem ev_tuple (hg : Gl X "tuple") (hm : X.mg "tuple" = none) (ha : EV X mu a fz f1) (he : starEach [a] X.env = (false, eval a X.env) :: starEach [] X.env := by rfl) (hpl : (backTo pos (starEach [] X.env)).any (·.1) = false := by rfl) : EV X mu (.Call (.Name "tuple" p) [a] [] pos) fz (d1 fTuple f1) :=
  ev_ty1F call_tuple_of (by
    intro b O H x dx d Q vb ob hb dm hx e q
    unfold fTuple at e
    split at e
    · obtain ⟨p, vs, rfl, n, hs, t⟩ := hx.lstF_inv
      cases e
      exact ⟨p, vs, rfl, .inl ⟨.inl hs, fun l hl => q _ _ [] (grow_upd hl) (fun a z => nomatch z) List.nodup_nil (new_tup ob hb hl t)⟩⟩
    · obtain ⟨p, vs, rfl, hs, t⟩ := hx.tupF_inv
      cases e
      exact ⟨p, vs, rfl, .inr ⟨.inl (.inl hs), q _ _ [] (fun _ _ h => h) (fun a z => nomatch z) List.nodup_nil (by rw [orN]; exact hx)⟩⟩
    · cases e) hg hm (by decide +kernel) ha (by decide) (by decide) he hpl
/-- .. of an own list -/
def fTupleL (x : D) : Option D := match x with | .lst ds => some (.tup ds) | _ => none
theorem ev_tupleL (hg : Gl X "tuple") (hm : X.mg "tuple" = none) (ha : EV X mu a .vw f1) (he : starEach [a] X.env = (false, eval a X.env) :: starEach [] X.env := by rfl) (hpl : (backTo pos (starEach [] X.env)).any (·.1) = false := by rfl) : EV X mu (.Call (.Name "tuple" p) [a] [] pos) fz (d1 fTupleL f1) :=
  ev_ty1 call_tuple_of (by
    intro b O H x dx d Q vb ob hb dm hx e q
    unfold fTupleL at e
    split at e
    · obtain ⟨p, vs, rfl, hs, t⟩ := hx.lst_inv
      cases e
      exact ⟨p, vs, rfl, .inl ⟨.inl hs, fun l hl => q _ _ [] (grow_upd hl) (fun a z => nomatch z) List.nodup_nil (new_tup ob hb hl t)⟩⟩
    · cases e) hg hm (by decide +kernel) ha (by decide) (by decide) he hpl
def fList (x : D) : Option D := match x with | .lst ds => some (.lst ds) | .tup ds => some (.lst ds) | _ => none
theorem ev_list (hg : Gl X "list") (hm : X.mg "list" = none) (ha : EV X mu a .vw f1) (he : starEach [a] X.env = (false, eval a X.env) :: starEach [] X.env := by rfl) (hpl : (backTo pos (starEach [] X.env)).any (·.1) = false := by rfl) : EV X mu (.Call (.Name "list" p) [a] [] pos) (.val (.own .frz)) (d1 fList f1) :=
  ev_ty1 call_list_of (by
    intro b O H x dx d Q vb ob hb dm hx e q
    unfold fList at e
    split at e
    · obtain ⟨p, vs, rfl, hs, t⟩ := hx.lst_inv
      cases e
      exact ⟨p, vs, rfl, .inl (.inl hs), fun l hl => q _ _ [l] (grow_upd hl) (fun a z => by rw [List.mem_singleton.mp z]; exact hl) (List.nodup_cons.mpr ⟨(fun z => nomatch z), List.nodup_nil⟩) (new_lstO ob hb hl t)⟩
    · obtain ⟨p, vs, rfl, hs, t⟩ := hx.tup_inv
      cases e
      exact ⟨p, vs, rfl, .inr hs, fun l hl => q _ _ [l] (grow_upd hl) (fun a z => by rw [List.mem_singleton.mp z]; exact hl) (List.nodup_cons.mpr ⟨(fun z => nomatch z), List.nodup_nil⟩) (new_lstO ob hb hl t)⟩
    · cases e) hg hm (by decide +kernel) ha (by decide) (by decide) he hpl
end
end Xa
/-! XA11: sorted, repr, join, isinstance, lists put together. -/
namespace Xa
open PySem PySem.Spec
open PyProof.Rows L2

def sortD (ds : List D) : List D := ds.mergeSort (PySem.W.dataLe false py)
def sameKind (ds : List D) : Bool := ds.all fun d => ds.all fun e => PySem.W.alike (py d) (py e)
def okTop (d : D) : Bool := match d with
  | .tup (_ :: _) => true
  | _ => false
def okTop2 (d : D) : Bool := match d with
  | .non => false
  | .tup _ => false
  | _ => true
def okSort (ds : List D) : Bool := sameKind ds && (ds.all okTop || ds.all okTop2) && ds.all shp && decide (ds.length ≤ sizeLine)
def fSorted (x : D) : Option D := match x with
  | .lst ds => if okSort ds = true then some (.lst (sortD ds)) else none
  | _ => none
section
variable {K : PySem.W.Frag} {b : Addr} {O : Addr → Prop} {H : Hp}
theorem OwL.of_pairs : ∀ {l : List (V × D)}, (∀ p ∈ l, Ow K b O H .frz p.1 p.2 []) → OwL K b O H .frz (l.map (·.1)) (l.map (·.2)) []
  | [], _ => .nil
  | p :: r, h => OwL.consN (h p List.mem_cons_self) (OwL.of_pairs fun q hq => h q (List.mem_cons_of_mem _ hq))
theorem OwL.pairs : ∀ {vs : List V} {ds : List D} {A : List Addr}, OwL K b O H .frz vs ds A → ∀ p ∈ vs.zip ds, Ow K b O H .frz p.1 p.2 []
  | [], ds, A, h, p, hp => by simp at hp
  | v :: r, ds, A, h, p, hp => by
    obtain ⟨d, ds', A1, A2, rfl, rfl, h1, h2⟩ := h.cons_inv
    rw [List.zip_cons_cons] at hp; rcases List.mem_cons.mp hp with rfl | hp
    · have := Ow.noA.1 h1 (.inr (.inl rfl))
      subst this; exact h1
    · exact OwL.pairs h2 p hp
end
theorem sort_snd (l : List (V × D)) : (l.mergeSort (PySem.W.dataLe false fun p : V × D => py p.2)).map (·.2) = sortD (l.map (·.2)) := by
  unfold sortD
  exact List.map_mergeSort fun a _ b _ => rfl
theorem each_vals : ∀ {l : List (V × D)} {out : List Value}, PySem.W.EachIs (fun (u : Value) (p : V × D) => RelV p.1 u) out l → Vals (l.map (·.1)) out
  | [], out, h => by cases h; exact .nil
  | p :: r, out, h => by cases h with | cons a t => exact .cons a (each_vals t)
theorem vals_each : ∀ {vs : List V} {us : List Value} {ds : List D}, Vals vs us → vs.length = ds.length → PySem.W.EachIs (fun (u : Value) (p : V × D) => RelV p.1 u) us (vs.zip ds)
  | [], us, ds, h, e => by cases h; exact .nil
  | v :: r, us, ds, h, e => by
    cases h with
    | cons a t =>
      cases ds with
      | nil => simp at e
      | cons d ds => exact .cons a (vals_each t (by simpa using e))
section
variable {X : Cx} {mu : List Md} {a b c : Expr} {f1 f2 f3 : DE} {rm : Rm} {pos p : Pos}
def rSortedD (K : PySem.W.Frag) : List V → Hp → VK → Prop := fun vs H Q => ∃ (a : Addr) (l : List (V × D)), vs = [.ref a] ∧ SqL K H a (l.map (·.1)) ∧ (∀ q ∈ l, Dp K H q.1 (py q.2)) ∧ okSort (l.map (·.2)) = true ∧
  ∀ p, H p = none → Q (.ref p) (upd H p (.lst ((l.mergeSort (PySem.W.dataLe false fun p : V × D => py p.2)).map (·.1))))
theorem okSort_inv {ds : List D} (h : okSort ds = true) : sameKind ds = true ∧ (ds.all okTop = true ∨ ds.all okTop2 = true) ∧ ds.all shp = true ∧ ds.length ≤ sizeLine := by
  unfold okSort at h
  obtain ⟨h, h4⟩ := Bool.and_eq_true_iff.mp h
  obtain ⟨h, h3⟩ := Bool.and_eq_true_iff.mp h
  obtain ⟨h1, h2⟩ := Bool.and_eq_true_iff.mp h
  exact ⟨h1, Bool.or_eq_true_iff.mp h2, h3, of_decide_eq_true h4⟩
theorem call_sortedD (hu : X.A.units + 66 < cLine) : CallR X (.builtin "sorted") (rSortedD X.K) := by
  intro pins s σ H vs us Q I r h; obtain ⟨a, l, rfl, hs, hd, ok, q⟩ := h
  obtain ⟨h1, h2, h3, h4⟩ := okSort_inv ok
  obtain ⟨its, rv, hl, hz⟩ := I.list hs; rw [Vals.ref1 r]
  have e1 : PySem.W.EachIs (fun (u : Value) (p : V × D) => RelV p.1 u) its l := by
    have := vals_each (ds := l.map (·.2)) rv (by simp)
    rw [List.zip_map', List.map_id''] at this
    · exact this
    · intro x; rfl
  have e2 : PySem.W.EachIs (fun (u : Value) (p : V × D) => ∃ as, Reads s.heap u (py p.2) as) its l := by
    have : ∀ {l : List (V × D)} {us : List Value}, (∀ q ∈ l, Dp X.K H q.1 (py q.2)) → PySem.W.EachIs (fun (u : Value) (p : V × D) => RelV p.1 u) us l → PySem.W.EachIs (fun (u : Value) (p : V × D) => ∃ as, Reads s.heap u (py p.2) as) us l := by
      intro l
      induction l with
      | nil => intro us _ h; cases h; exact .nil
      | cons p r ih =>
        intro us hd h
        cases h with
        | cons a t => exact .cons (Dp.reads I _ _ _ (hd p List.mem_cons_self) a) (ih (fun q hq => hd q (List.mem_cons_of_mem _ hq)) t)
    exact this hd e1
  have al : PySem.W.AllAlike (l.map fun p => py p.2) := by
    intro d hd' d' hd''
    obtain ⟨p, hp, rfl⟩ := List.mem_map.mp hd'
    obtain ⟨p', hp', rfl⟩ := List.mem_map.mp hd''
    unfold sameKind at h1
    have := List.all_eq_true.mp h1 p.2 (List.mem_map_of_mem hp)
    exact List.all_eq_true.mp this p'.2 (List.mem_map_of_mem hp')
  have so : PySem.W.Sortable (l.map fun p => py p.2) := by
    rcases h2 with h2 | h2
    · refine .inl fun d hd' => ?_
      obtain ⟨p, hp, rfl⟩ := List.mem_map.mp hd'
      have := List.all_eq_true.mp h2 p.2 (List.mem_map_of_mem hp)
      cases e : p.2 with
      | tup l =>
        cases l with
        | nil => rw [e] at this; cases this
        | cons x r => exact ⟨_, _, by simp [e, py, pyL]; exact ⟨rfl, rfl⟩⟩
      | _ => rw [e] at this; cases this
    · refine .inr fun d hd' => ?_
      obtain ⟨p, hp, rfl⟩ := List.mem_map.mp hd'
      have := List.all_eq_true.mp h2 p.2 (List.mem_map_of_mem hp)
      cases e : p.2 <;> simp [e, okTop2] at this <;> exact ⟨by simp [py], by simp [py]⟩
  refine PySem.W.sorted_data (enc := fun p : V × D => py p.2) hl.isList e1 e2 al so (by simpa using h4) (fun p hp => ?_) fun out ho he => ?_
  · have := List.all_eq_true.mp h3 p.2 (List.mem_map_of_mem hp)
    have := SeqAt.depth_of_shaped this
    omega
  · obtain ⟨ep, he'⟩ := PyProof.Rows.sortedAll_at s.heap its (List.toArray out)
    have hlen : ((l.mergeSort (PySem.W.dataLe false fun p : V × D => py p.2)).map (·.1)).length ≤ sizeLine := by
      rw [List.length_map, List.length_mergeSort]; simpa using h4
    exact ⟨.ref _, upd H (s.heap.objs.size + 1) (.lst _), I.laid (t' := s.toks) (fun _ _ => PyProof.Rows.sortedAll_old) (Nat.le_succ _) ⟨hlen, out, ep, each_vals he, he'⟩, rfl, q _ (I.hok.fresh (Nat.le_succ _))⟩
theorem sorted_new {O : Addr → Prop} {b : Addr} {H : Hp} {p : Addr} {vs : List V} {ds : List D} (t : OwL X.K b O H .frz vs ds []) :
    ((vs.zip ds).map (·.1)) = vs ∧ ((vs.zip ds).map (·.2)) = ds ∧ OwL X.K b O H .frz (((vs.zip ds).mergeSort (PySem.W.dataLe false fun p : V × D => py p.2)).map (·.1)) (sortD ds) [] := by
  have e1 : ((vs.zip ds).map (·.1)) = vs := List.map_fst_zip (by rw [t.len]; exact Nat.le_refl _)
  have e2 : ((vs.zip ds).map (·.2)) = ds := List.map_snd_zip (by rw [t.len]; exact Nat.le_refl _)
  refine ⟨e1, e2, ?_⟩
  have := OwL.of_pairs (K := X.K) (b := b) (O := O) (H := H) (l := (vs.zip ds).mergeSort (PySem.W.dataLe false fun p : V × D => py p.2)) fun q hq => t.pairs q (List.mem_mergeSort.mp hq)
  rw [sort_snd, e2] at this
  exact this
theorem ev_sorted (hu : X.A.units + 66 < cLine) (hg : Gl X "sorted") (hm : X.mg "sorted" = none) (ha : EV X mu a .vw f1) (he : starEach [a] X.env = (false, eval a X.env) :: starEach [] X.env := by rfl) (hpl : (backTo pos (starEach [] X.env)).any (·.1) = false := by rfl) : EV X mu (.Call (.Name "sorted" p) [a] [] pos) (.val (.own .frz)) (d1 fSorted f1) :=
  ev_call1 (call_sortedD hu) (by
    intro b O H x dx d Q vb ob hb dm hx e q
    unfold fSorted at e
    split at e
    · split at e <;> cases e
      rename_i ds ok
      obtain ⟨p, vs, rfl, hs, t⟩ := hx.lst_inv
      obtain ⟨e1, e2, t2⟩ := sorted_new (p := p) t
      refine ⟨p, vs.zip ds, rfl, by rw [e1]; exact .inl hs, fun q hq => ?_, by rw [e2]; exact ok, fun l hl => q _ _ [l] (grow_upd hl) (fun a z => by rw [List.mem_singleton.mp z]; exact hl) (List.nodup_cons.mpr ⟨(fun z => nomatch z), List.nodup_nil⟩) (new_lstO ob hb hl t2)⟩
      have hq2 : q.2 ∈ ds := (List.of_mem_zip hq).2
      have := List.all_eq_true.mp (okSort_inv ok).2.2.1 q.2 hq2
      exact Ow.dp.1 (t.pairs q hq) (by decide) (SeqAt.canLay_of_shaped this)
    · cases e) hg hm (by decide +kernel) ha (by decide) (by decide) he hpl

/-! repr -/
def okRepr (d : D) : Bool := shp d && PyData.showable (py d) && !PyData.hasDict (py d) && decide ((PyData.shown (py d)).length ≤ sizeLine)
def fRepr (x : D) : Option D := if okRepr x = true then some (.str (PyData.shown (py x))) else none
def rRepr (K : PySem.W.Frag) : List V → Hp → VK → Prop := fun vs H Q => ∃ v d, vs = [v] ∧ Dp K H v d ∧ d.showable = true ∧ d.hasDict = false ∧ d.depth ≤ 64 ∧ d.shown.length ≤ sizeLine ∧ Q (.str d.shown) H
theorem call_reprD (hG : X.A.guards = some []) (hu : X.A.units + 66 < cLine) : CallR X (.builtin "repr") (rRepr X.K) := by
  intro pins s σ H vs us Q I r h; obtain ⟨v, d, rfl, hd, h1, h2, h3, h4, q⟩ := h
  obtain ⟨u, rfl, rv⟩ := vals1 r
  obtain ⟨as, rd⟩ := Dp.reads I d v u hd rv
  have fin : ∀ h' tk t, (∀ b o, s.heap.get? b = some o → h'.get? b = some o) → EP X pins σ Q (.str d.shown t) { s with heap := h', toks := tk } := fun h' tk t hk => ⟨.str d.shown, H, I.kept (h' := h') (t' := tk) hk, ⟨_, rfl⟩, q⟩
  cases hd with
  | non => cases rv; exact P.repr_of_none (fin s.heap _ _ fun _ _ e => e)
  | bl k => cases rv; exact P.repr_of_bool (fin s.heap _ _ fun _ _ e => e)
  | int i =>
    obtain ⟨t, rfl⟩ := rv
    exact P.repr_of_int (by simpa [PyData.showable] using h1) (fin s.heap _ _ fun _ _ e => e)
  | str x =>
    obtain ⟨t, rfl⟩ := rv
    exact P.repr_of_str (fin s.heap _ _ fun _ _ e => e) h4
  | lst _ _ =>
    cases rv
    exact repr_of_reads' rd h1 (fun z => by rw [h2] at z; cases z) hG (by omega) (fun _ _ e => e) (fun h' u tk hk => fin h' tk u hk) h4
  | tup _ _ =>
    cases rv
    exact repr_of_reads' rd h1 (fun z => by rw [h2] at z; cases z) hG (by omega) (fun _ _ e => e) (fun h' u tk hk => fin h' tk u hk) h4
theorem ev_repr (hG : X.A.guards = some []) (hu : X.A.units + 66 < cLine) (hg : Gl X "repr") (hm : X.mg "repr" = none) (ha : EV X mu a .vw f1) (he : starEach [a] X.env = (false, eval a X.env) :: starEach [] X.env := by rfl) (hpl : (backTo pos (starEach [] X.env)).any (·.1) = false := by rfl) : EV X mu (.Call (.Name "repr" p) [a] [] pos) fz (d1 fRepr f1) :=
  ev_call1 (call_reprD hG hu) (by
    intro b O H x dx d Q vb ob hb dm hx e q
    unfold fRepr at e
    split at e <;> cases e
    rename_i ok
    unfold okRepr at ok
    obtain ⟨ok, h4⟩ := Bool.and_eq_true_iff.mp ok
    obtain ⟨ok, h3⟩ := Bool.and_eq_true_iff.mp ok; obtain ⟨h1, h2⟩ := Bool.and_eq_true_iff.mp ok
    exact ⟨x, py dx, rfl, hx.dp h1, h2, by simpa using h3, SeqAt.depth_of_shaped h1, of_decide_eq_true h4, q _ _ [] (fun _ _ h => h) (fun a z => nomatch z) List.nodup_nil .str⟩) hg hm (by decide +kernel) ha (by decide) (by decide) he hpl

/-! isinstance(x, T), T a built-in class -/
def tyD : D → Option String
  | .non => some "NoneType"
  | .bl _ => some "bool"
  | .int _ => some "int"
  | .str _ => some "str"
  | .tup _ => some "tuple"
  | .lst _ => some "list"
  | .dic ((.tup _, _) :: _) => none
  | .dic _ => some "dict"
  | .exc _ _ => none
def fIsi (T : String) (x : D) : Option D := (tyD x).bind fun t => (kitB t T).map D.bl
theorem ty_dk (es : List (Key × V)) (ds : List D) : tyD (.dic ((es.map fun p => kD p.1).zip ds)) = some "dict" := by
  cases es with
  | nil => rfl
  | cons p r => cases ds with
    | nil => rfl
    | cons d ds => obtain ⟨k, v⟩ := p; cases k <;> rfl
theorem ty_dt {es : List (List Key × V)} {ds : List D} {t : String} (hl : es.length = ds.length) (h : tyD (.dic ((es.map fun p => kT p.1).zip ds)) = some t) : es = [] ∧ t = "dict" := by
  cases es with
  | nil => cases h; exact ⟨rfl, rfl⟩
  | cons p r => cases ds with
    | nil => simp at hl
    | cons d ds => cases h
theorem Vw.ty {K : PySem.W.Frag} {b : Addr} {O : Addr → Prop} {H : Hp} {v : V} {d : D} {t : String} (h : Vw K b O H v d) (ht : tyD d = some t) : TyX K H v (.type t) := by
  have lenK : ∀ {es : List (List Key × V)} {ds : List D} {A : List Addr} {m : Md}, OwL K b O H m (es.map (·.2)) ds A → es.length = ds.length := fun t => by have := t.len; simpa using this
  cases h with
  | of h =>
    cases h with
    | non _ => cases ht; exact .base .non
    | bl _ => cases ht; exact .base (.bl _)
    | int _ => cases ht; exact .base (.int _)
    | str _ => cases ht; exact .base (.str _)
    | tup _ q _ => cases ht; exact .base (.tup q)
    | lstF _ q _ =>
      cases ht
      rcases q with q | ⟨o, q⟩
      · exact .base (.lst q)
      · exact .base (.frz q)
    | dkF _ q _ _ =>
      rw [ty_dk] at ht; cases ht
      rcases q with q | ⟨o, q⟩
      · exact .base (.dK q)
      · exact .fDict q
    | dtF n q z tl =>
      obtain ⟨e, rfl⟩ := ty_dt (lenK tl) ht
      exact .base (.dT (z e))
  | kt q tl =>
    cases ht
    rcases q with (q | ⟨o, q⟩) | ⟨o, its, n, hk, hc, _⟩
    · exact .base (.tup q)
    · exact .fTuple q
    · exact .kTuple hk hc
  | lst _ q _ => cases ht; exact .base (.lst q)
  | dk _ q _ => rw [ty_dk] at ht; cases ht; exact .base (.dK q)
  | dt _ q tl =>
    obtain ⟨e, rfl⟩ := ty_dt (lenK tl) ht
    subst e
    exact .base (.dT q)
theorem ev_isi {q : Pos} (hg : Gl X "isinstance") (hm : X.mg "isinstance" = none) {T : String} {tn : Str} (ht : PE X (.Name tn q) (tC (.ty T))) (ha : EV X mu a .vw f1) (he : starEach [a, .Name tn q] X.env = (false, eval a X.env) :: starEach [.Name tn q] X.env := by rfl) (he2 : starEach [.Name tn q] X.env = (false, eval (.Name tn q) X.env) :: starEach [] X.env := by rfl)
    (hpl : (backTo pos (starEach [.Name tn q] X.env)).any (·.1) = false := by rfl) : EV X mu (.Call (.Name "isinstance" p) [a, .Name tn q] [] pos) fz (d1 (fIsi T) f1) := by
  have hp := pe_callB (pos := pos) (p := p) call_isi hg hm (by decide +kernel) (pa_cons ha (pa_cons ht pa_nil he2) he) (by decide) (by decide) he hpl
  refine ev_one (r := fun v H Q => rIsi X.K [v, .ty T] H Q) hp ?_
  intro b O H x dx d Q vb ob hb dm hx e q
  unfold fIsi at e
  cases e1 : tyD dx with
  | none => rw [e1] at e; cases e
  | some t =>
    rw [e1, Option.bind_some] at e
    cases e2 : kitB t T with
    | none => rw [e2] at e; cases e
    | some k =>
      rw [e2] at e; cases e
      exact ⟨x, .ty T, .type t, .type T, k, rfl, .ty T, hx.ty e1, kit_ty e2, q _ _ [] (fun _ _ h => h) (fun a z => nomatch z) List.nodup_nil .bl⟩

/-! lists put together: a new list -/
def fCatL (x y : D) : Option D := match x, y with
  | .lst s, .lst t => if s.length + t.length ≤ sizeLine then some (.lst (s ++ t)) else none
  | _, _ => none
theorem o_cat : Op2 X (fun x y H Q => ∃ l b xs zs, x = .ref l ∧ y = .ref b ∧ Rd H l (.lst xs) ∧ Rd H b (.lst zs) ∧ xs.length + zs.length ≤ sizeLine ∧ ∀ p, H p = none → Q (.ref p) (upd H p (.lst (xs ++ zs)))) (.val (.own .frz)) fCatL := by
  intro b O H x y dx dy d Q vb ob hb dm hx hy e q
  unfold fCatL at e
  split at e
  · obtain ⟨p, vs, rfl, h1, t1⟩ := hx.lst_inv
    obtain ⟨p', ws, rfl, h2, t2⟩ := hy.lst_inv
    split at e <;> cases e
    rename_i hz
    exact ⟨p, p', vs, ws, rfl, rfl, h1, h2, by rw [t1.len, t2.len]; exact hz, fun l hl => q _ _ [l] (grow_upd hl) (fun a z => by rw [List.mem_singleton.mp z]; exact hl) (List.nodup_cons.mpr ⟨(fun z => nomatch z), List.nodup_nil⟩) (new_lstO ob hb hl (t1.appN t2))⟩
  · cases e
theorem op_catR : OpR X (binaryOp .Add) (fun x y H Q => ∃ l b xs zs, x = .ref l ∧ y = .ref b ∧ Rd H l (.lst xs) ∧ Rd H b (.lst zs) ∧ xs.length + zs.length ≤ sizeLine ∧ ∀ p, H p = none → Q (.ref p) (upd H p (.lst (xs ++ zs)))) := by
  rintro pins s σ H x y v u Q I rx ry ⟨l, b, xs, zs, rfl, rfl, h1, h2, hz, q⟩
  cases rx; cases ry
  obtain ⟨z1, its, n1, r1, g1⟩ := h1.ok I.hok
  obtain ⟨z2, jts, n2, r2, g2⟩ := h2.ok I.hok
  have l1 := r1.length
  have l2 := r2.length
  refine PySem.P.add_list g1 g2 ?_ (by rw [List.size_toArray, List.size_toArray]; omega)
  rw [show its.toArray ++ jts.toArray = (its ++ jts).toArray by simp]
  exact ⟨.ref _, _, I.lnew (t' := s.toks) (r1.append r2) (by rw [List.length_append]; omega), rfl, q _ I.fresh⟩
theorem ev_cat (ha : EV X mu a .vw f1) (hb : EV X mu b .vw f2) : EV X mu (.BinOp a .Add b pos) (.val (.own .frz)) (d2 fCatL f1 f2) := ev_two (pe_op op_catR ha hb) o_cat

/-! ''.join(..) -/
def fJoin (s x : D) : Option D := match s, x with
  | .str a, .lst ds => if ds.all isStr = true ∧ (ds.map fun d => match d with | .str z => z.length | _ => 0).sum + ds.length * a.length ≤ 16777216 then some (.str (Txt.join a (ds.map fun d => match d with | .str z => z | _ => ""))) else none
  | _, _ => none
theorem join_maps (ss : List Str) : ((ss.map D.str).map fun d => match d with | .str z => z.length | _ => 0) = ss.map (·.length) ∧ ((ss.map D.str).map fun d => match d with | .str z => z | _ => "") = ss := by
  constructor
  · rw [List.map_map]; rfl
  · rw [List.map_map]; exact List.map_id _
theorem ev_join {apos cpos : Pos} (ha : EV X mu a fz f1) (hb : EV X mu b .vw f2) (hs : starEach [b] X.env = [(false, eval b X.env)] := by rfl) (hbase : attributeBase a "join" X.env (eval a X.env) = eval a X.env := by rfl) (hline : (apos.endLine == cpos.line) = true := by rfl) :
    EV X mu (.Call (.Attribute a "join" apos) [b] [] cpos) fz (d2 fJoin f1 f2) := by
  have hp := pe_join (apos := apos) (pos := cpos) ha hb hs hbase hline
  refine pe_imp hp fun σ H Q ⟨g, O, G, B, d, B', F, hb', e, q⟩ => ?_
  -- the first one is a text
  have e' := d2_op e
  unfold d2 at e
  cases e1 : f1 G B with
  | none => rw [e1] at e; cases e
  | some p1 =>
    obtain ⟨dx, B1⟩ := p1
    cases e2 : f2 G B1 with
    | none => simp [e1, e2] at e
    | some p2 =>
      obtain ⟨dy, B2⟩ := p2
      simp only [e1, e2, Option.bind_some] at e
      cases e3 : fJoin dx dy with
      | none => rw [e3] at e; cases e
      | some d' =>
        rw [e3] at e
        cases e
        obtain ⟨z, rfl⟩ : ∃ z, dx = .str z := by
          cases dx with
          | str z => exact ⟨z, rfl⟩
          | _ => cases e3
        refine ⟨g, O, G, B, .str z, B1, F, hb', e1, fun v H1 A G1 => ⟨⟨z, by cases G1.rw_; rfl⟩, ?_⟩⟩
        have hA : A = [] := Ow.noA.1 G1.rw_ (.inr (.inl rfl))
        subst hA
        have F1 : Fr X.K g O mu G σ H1 := F.step0 hb' G1.ext G1.bag
        have ev : v = .str z := by cases G1.rw_; rfl
        subst ev
        refine ⟨g, O, G, B1, dy, _, F1, G1.bag, e2, fun y H2 A2 G2 => ?_⟩
        obtain ⟨rfl, w⟩ := G2.rw_
        rw [orN] at w
        cases dy with
        | lst ds =>
          obtain ⟨p, vs, rfl, hs, t⟩ := w.lst_inv
          simp only [fJoin] at e3
          split at e3 <;> cases e3
          rename_i hc
          obtain ⟨ss, rfl, rfl⟩ := t.strs hc.1
          refine ⟨z, p, ss, rfl, rfl, .inl (.inl hs), ?_, ?_⟩
          · have := hc.2
            rw [(join_maps ss).1, List.length_map] at this
            exact this
          · have r : Rw X.K g.b (orA O []) H2 fz (.str (Txt.join z ss)) (.str (Txt.join z ss)) [] := .str
            refine q _ _ [] ⟨fun a o n h => G2.ext a o n (G1.ext a o n h), (fun a z => nomatch z), List.nodup_nil, G2.bag, ?_⟩
            rw [(join_maps ss).2]
            exact r
        | _ => cases e3
end
end Xa
/-! XB1: statements: names stored, blocks, if, return. -/
namespace Xa
open PySem PySem.Spec
open PyProof.Rows L2

inductive Oc where
  | nx (G : Gam) (B : Bag) | rt (d : D) (B : Bag) | bk (G : Gam) (B : Bag) | ct (G : Gam) (B : Bag)
abbrev DS := Gam → Bag → Option Oc

/-- what a frame's step leaves: what nobody owned is as it was, what is owned now was owned or is new -/
structure Sub (O O' : Addr → Prop) (H H' : Hp) : Prop where
  keep : ∀ a o, ¬ O a → H a = some o → H' a = some o
  tups : ∀ a vs, H a = some (.tup vs) → H' a = some (.tup vs)
  more : ∀ a, O a → O' a
  new : ∀ a, O' a → O a ∨ H a = none
  dom : ∀ a, H a ≠ none → H' a ≠ none
structure Ret (K : PySem.W.Frag) (g : Bg) (H' : Hp) (B' : Bag) (rm : Rm) (v : V) (d : D) (A : List Addr) : Prop where
  ext0 : ∀ a o, a ≠ g.b → g.H0 a = some o → H' a = some o
  fresh : ∀ a ∈ A, g.H0 a = none
  nd : A.Nodup
  bag : BagAt g.b g.l H' B'
  rw_ : Rw K g.b (orA g.O0 A) H' rm v d A
def Fin (K : PySem.W.Frag) (mu : List Md) (rm : Rm) (g : Bg) (O : Addr → Prop) (H : Hp) (D : Ends) : Oc → Prop
  | .nx G' B' => ∀ σ' H' O', Fr K g O' mu G' σ' H' → BagAt g.b g.l H' B' → Sub O O' H H' → D.nx σ' H'
  | .bk G' B' => ∀ σ' H' O', Fr K g O' mu G' σ' H' → BagAt g.b g.l H' B' → Sub O O' H H' → D.bk σ' H'
  | .ct G' B' => ∀ σ' H' O', Fr K g O' mu G' σ' H' → BagAt g.b g.l H' B' → Sub O O' H H' → D.ct σ' H'
  | .rt d B' => ∀ v H' A, Ret K g H' B' rm v d A → D.rt v H'
def tS (K : PySem.W.Frag) (mu : List Md) (rm : Rm) (f : DS) : TS := fun D σ H => ∃ (g : Bg) (O : Addr → Prop) (G : Gam) (B : Bag) (oc : Oc), Fr K g O mu G σ H ∧ BagAt g.b g.l H B ∧ f G B = some oc ∧ Fin K mu rm g O H D oc
def ES (X : Cx) (mu : List Md) (rm : Rm) (s : Stmt) (f : DS) : Prop := PS X s (tS X.K mu rm f)
def ESs (X : Cx) (mu : List Md) (rm : Rm) (s : List Stmt) (f : DS) : Prop := PSs X s (tS X.K mu rm f)

section
variable {K : PySem.W.Frag} {b l : Addr} {O O1 O2 : Addr → Prop} {H H1 H2 : Hp} {g : Bg} {mu : List Md} {G : Gam} {σ : L2.St} {B B' : Bag} {rm : Rm}
theorem Sub.refl : Sub O O H H := ⟨fun _ _ _ h => h, fun _ _ h => h, fun _ h => h, fun _ h => .inl h, fun _ h => h⟩
theorem Sub.trans (x : Sub O O1 H H1) (y : Sub O1 O2 H1 H2) : Sub O O2 H H2 := by
  refine ⟨fun a o n h => y.keep a o (fun z => ?_) (x.keep a o n h), fun a vs h => y.tups a vs (x.tups a vs h), fun a h => y.more a (x.more a h), fun a h => ?_, fun a h => y.dom a (x.dom a h)⟩
  · rcases x.new a z with z | z
    · exact n z
    · rw [h] at z; cases z
  · rcases y.new a h with z | z
    · exact x.new a z
    · refine .inr ?_
      cases q : H a with
      | none => rfl
      | some o => exact absurd z (x.dom a (by rw [q]; simp))
theorem Got.sub {d : D} {v : V} {A : List Addr} (F : Fr K g O mu G σ H) (hb : BagAt g.b g.l H B) (Gt : Got K g.b g.l O H H1 B' rm v d A) : Sub O (orA O A) H H1 := by
  refine ⟨fun a o n h => Gt.ext a o (fun e => n (e ▸ F.ob)) h, fun a vs h => Gt.ext a _ (fun e => ?_) h, fun a h => .inl h, fun a h => h.elim .inl fun m => .inr (Gt.fresh a m), fun a h => ?_⟩
  · exact (hb.noT (e ▸ h)).elim
  · by_cases e : a = g.b
    · exact e ▸ Gt.bag.ne
    · cases q : H a with
      | none => exact absurd q h
      | some o => rw [Gt.ext a o e q]; simp
theorem Ext.sub (F : Fr K g O mu G σ H) (hb : BagAt g.b g.l H B) (h1 : BagAt g.b g.l H1 B') (x : Ext g.b H H1) : Sub O O H H1 := by
  refine ⟨fun a o n h => x a o (fun e => n (e ▸ F.ob)) h, fun a vs h => x a _ (fun e => ?_) h, fun a h => h, fun a h => .inl h, fun a h => ?_⟩
  · exact (hb.noT (e ▸ h)).elim
  · by_cases e : a = g.b
    · exact e ▸ h1.ne
    · cases q : H a with
      | none => exact absurd q h
      | some o => rw [x a o e q]; simp
/-- fresh now: fresh at the entry -/
theorem Fr.fresh0 (F : Fr K g O mu G σ H) (hb : BagAt g.b g.l H B) {a : Addr} (h : H a = none) : g.H0 a = none := by
  cases q : g.H0 a with
  | none => rfl
  | some o =>
    by_cases e : a = g.b
    · exact (hb.ne (e ▸ h)).elim
    · rw [F.ext0 a o e q] at h; cases h
theorem Fr.not0 (F : Fr K g O mu G σ H) {a : Addr} (h : H a = none) : ¬ g.O0 a := fun z => F.dom a (F.sub a z) h
theorem slot_put (As : Nat → List Addr) (i : Nat) (A : List Addr) : ∃ At : Nat → List Addr, At i = A ∧ ∀ j, j ≠ i → At j = As j :=
  ⟨fun j => if j = i then A else As j, by simp, fun j h => by simp [h]⟩
/-- a name is stored -/
theorem Fr.set {m : Md} {v : V} {d : D} {A : List Addr} {i : Nat} (F : Fr K g O mu G σ H) (hb : BagAt g.b g.l H B) (Gt : Got K g.b g.l O H H1 B' (.val m) v d A) (hm : mu[i]? = some m) : Fr K g (orA O A) mu (G.set i (some d)) (σ.set i (some v)) H1 := by
  have F1 : Fr K g (orA O A) mu G σ H1 := F.step hb Gt.ext Gt.fresh (fun a z => (Gt.rw_.dom a z).2) Gt.bag.ne
  obtain ⟨As, nd, dj, ss, sl⟩ := F.slots
  obtain ⟨As1, nd1, dj1, ss1, sl1⟩ := F1.slots
  have hoff : Off O g.b H H1 := hb.off F.ob Gt.ext
  have eqv : ∀ a, H a ≠ none → (orA O A a ↔ O a) := fun a n => ⟨fun z => z.elim id fun m => absurd (Gt.fresh a m) n, .inl⟩
  obtain ⟨At, at1, at2⟩ := slot_put As i A
  refine ⟨F1.ok, F1.sub, F1.dom, F1.ext0, by rw [List.length_set, List.length_set]; exact F1.len, At, fun j => ?_, fun j k hjk a ha => ?_, fun j a ha => ?_, fun j d' e => ?_⟩
  · by_cases e : j = i
    · rw [e, at1]; exact Gt.nd
    · rw [at2 j e]; exact nd j
  · by_cases e : j = i
    · rw [e, at1] at ha
      by_cases e2 : k = i
      · exact absurd (e.trans e2.symm) hjk
      · rw [at2 k e2]
        exact fun z => F.dom a (ss k a z).1 (Gt.fresh a ha)
    · rw [at2 j e] at ha
      by_cases e2 : k = i
      · rw [e2, at1]
        exact fun z => F.dom a (ss j a ha).1 (Gt.fresh a z)
      · rw [at2 k e2]; exact dj j k hjk a ha
  · by_cases e : j = i
    · rw [e, at1] at ha
      exact ⟨.inr ha, F.not0 (Gt.fresh a ha), F.fresh0 hb (Gt.fresh a ha)⟩
    · rw [at2 j e] at ha
      exact ⟨.inl (ss j a ha).1, (ss j a ha).2⟩
  · by_cases e1 : j = i
    · subst e1
      have hl : j < G.length := by
        have := (List.getElem?_eq_some_iff.mp e).1
        simpa using this
      rw [List.getElem?_set_self hl] at e
      cases e
      exact ⟨m, v, hm, by rw [List.getElem?_set_self (by rw [← F.len]; exact hl)], by rw [at1]; exact Gt.rw_⟩
    · rw [List.getElem?_set_ne (Ne.symm e1)] at e
      obtain ⟨m', v', h1, h2, h3⟩ := sl j d' e
      refine ⟨m', v', h1, by rw [List.getElem?_set_ne (Ne.symm e1)]; exact h2, ?_⟩
      rw [at2 j e1]
      exact (Ow.off hoff eqv).1 h3 fun z => (ss j _ z).2.1 F.ok.b0
theorem Got.ret {rm : Rm} {v : V} {d : D} {A : List Addr} (F : Fr K g O mu G σ H) (hb : BagAt g.b g.l H B) {m : Md} (Gt : Got K g.b g.l O H H1 B' (.val m) v d A) : Ret K g H1 B' (.val m) v d A := by
  refine ⟨fun a o n h => Gt.ext a o n (F.ext0 a o n h), fun a z => F.fresh0 hb (Gt.fresh a z), Gt.nd, Gt.bag, ?_⟩
  exact (Ow.shrink fun a z => z.elim (fun z => .inl (F.sub a z)) .inr).1 Gt.rw_ fun a z => .inr z
end

section
variable {X : Cx} {mu : List Md} {rm : Rm} {e c : Expr} {st : Stmt} {rest : List Stmt} {f f1 f2 : DE} {u : DT} {s1 s2 : DS} {pos : Pos}
theorem ps_imp {st : Stmt} {t t' : TS} (h : PS X st t) (w : ∀ D σ H, t' D σ H → t D σ H) : PS X st t' := ⟨fun pins s σ H D I q => h.run pins s σ H D I (w D σ H q)⟩
theorem pss_imp {st : List Stmt} {t t' : TS} (h : PSs X st t) (w : ∀ D σ H, t' D σ H → t D σ H) : PSs X st t' := ⟨fun pins s σ H D I q => h.run pins s σ H D I (w D σ H q)⟩
theorem es_eq {s1' : DS} (h : ES X mu rm st s1) (w : ∀ G B r, s1' G B = some r → s1 G B = some r) : ES X mu rm st s1' := ps_imp h fun D σ H ⟨g, O, G, B, oc, F, hb, e, q⟩ => ⟨g, O, G, B, oc, F, hb, w _ _ _ e, q⟩
theorem ess_eq {s1' : DS} {sts : List Stmt} (h : ESs X mu rm sts s1) (w : ∀ G B r, s1' G B = some r → s1 G B = some r) : ESs X mu rm sts s1' := pss_imp h fun D σ H ⟨g, O, G, B, oc, F, hb, e, q⟩ => ⟨g, O, G, B, oc, F, hb, w _ _ _ e, q⟩
def sSkip : DS := fun G B => some (.nx G B)
def sThen (s1 s2 : DS) : DS := fun G B => (s1 G B).bind fun o => match o with
  | .nx G' B' => s2 G' B'
  | o => some o
theorem ess_nil : ESs X mu rm [] sSkip := pss_imp pss_nil fun D σ H ⟨g, O, G, B, oc, F, hb, e, q⟩ => by
  cases e; exact q σ H O F hb Sub.refl
theorem Fin.weak {K : PySem.W.Frag} {g : Bg} {O O1 : Addr → Prop} {H H1 : Hp} {D : Ends} {oc : Oc} (x : Sub O O1 H H1) (q : Fin K mu rm g O H D oc) : Fin K mu rm g O1 H1 D oc := by
  cases oc with
  | nx G B => exact fun σ' H' O' F b y => q σ' H' O' F b (x.trans y)
  | bk G B => exact fun σ' H' O' F b y => q σ' H' O' F b (x.trans y)
  | ct G B => exact fun σ' H' O' F b y => q σ' H' O' F b (x.trans y)
  | rt d B => exact q
theorem seq_imp (D : Ends) (σ : L2.St) (H : Hp) (h : tS X.K mu rm (sThen s1 s2) D σ H) : tSeq (tS X.K mu rm s1) (tS X.K mu rm s2) D σ H := by
  obtain ⟨g, O, G, B, oc, F, hb, e, q⟩ := h
  unfold sThen at e
  cases e1 : s1 G B with
  | none => rw [e1] at e; cases e
  | some o =>
    rw [e1, Option.bind_some] at e
    refine ⟨g, O, G, B, o, F, hb, e1, ?_⟩
    cases o with
    | nx G' B' => exact fun σ' H' O' F' b' x => ⟨g, O', G', B', oc, F', b', e, q.weak x⟩
    | bk G' B' => cases e; exact q
    | ct G' B' => cases e; exact q
    | rt d B' => cases e; exact q
theorem ess_cons (h1 : ES X mu rm st s1) (h2 : ESs X mu rm rest s2) : ESs X mu rm (st :: rest) (sThen s1 s2) := pss_imp (pss_cons h1 h2) seq_imp
theorem ess_one (h1 : ES X mu rm st s1) : ESs X mu rm [st] s1 := pss_one h1
theorem es_pass : ES X mu rm (.Pass pos) sSkip := ps_imp ps_pass fun D σ H ⟨g, O, G, B, oc, F, hb, e, q⟩ => by
  cases e; exact q σ H O F hb Sub.refl
theorem es_break : ES X mu rm (.Break pos) (fun G B => some (.bk G B)) := ps_imp ps_break fun D σ H ⟨g, O, G, B, oc, F, hb, e, q⟩ => by
  cases e; exact q σ H O F hb Sub.refl
theorem es_continue : ES X mu rm (.Continue pos) (fun G B => some (.ct G B)) := ps_imp ps_continue fun D σ H ⟨g, O, G, B, oc, F, hb, e, q⟩ => by
  cases e; exact q σ H O F hb Sub.refl
/-- never reached -/
theorem es_never : ES X mu rm st (fun _ _ => none) := ps_imp ps_never fun D σ H ⟨g, O, G, B, oc, F, hb, e, q⟩ => by cases e
def sIf (u : DT) (s1 s2 : DS) : DS := fun G B => (u G B).bind fun p => if p.1 = true then s1 G p.2 else s2 G p.2
theorem es_if {a b : List Stmt} (hc : ET X mu c u) (ha : ESs X mu rm a s1) (hb : ESs X mu rm b s2) : ES X mu rm (.If c a b pos) (sIf u s1 s2) := ps_imp (ps_if hc ha hb) fun D σ H ⟨g, O, G, B, oc, F, hb, e, q⟩ => by
  unfold sIf at e
  cases e1 : u G B with
  | none => rw [e1] at e; cases e
  | some p =>
    obtain ⟨k, B1⟩ := p
    simp only [e1, Option.bind_some] at e
    refine ⟨g, O, G, B, k, B1, F, hb, e1, fun H1 x h1 => ?_⟩
    have F1 := F.step0 hb x h1
    have su : Sub O O H H1 := x.sub F hb h1
    cases k with
    | true => exact iteT ⟨g, O, G, B1, oc, F1, h1, by simpa using e, q.weak su⟩
    | false => exact iteF ⟨g, O, G, B1, oc, F1, h1, by simpa using e, q.weak su⟩
def sRet (f : DE) : DS := fun G B => (f G B).map fun p => .rt p.1 p.2
theorem es_ret {m : Md} (he : EV X mu e (.val m) f) : ES X mu (.val m) (.Return (some e) pos) (sRet f) := ps_imp (ps_ret he) fun D σ H ⟨g, O, G, B, oc, F, hb, e, q⟩ => by
  unfold sRet at e
  cases e1 : f G B with
  | none => rw [e1] at e; cases e
  | some p =>
    rw [e1] at e; cases e
    exact ⟨g, O, G, B, p.1, p.2, F, hb, e1, fun v H' A Gt => q v H' A (Gt.ret (rm := .val m) F hb)⟩
theorem es_retN {m : Md} (hm : m ≠ .bag := by decide) : ES X mu (.val m) (.Return none pos) (fun _ B => some (.rt .non B)) := ps_imp ps_retN fun D σ H ⟨g, O, G, B, oc, F, hb, e, q⟩ => by
  cases e
  exact q .non H [] ⟨F.ext0, (fun a z => nomatch z), List.nodup_nil, hb, Ow.non hm⟩
def sDrop (f : DE) : DS := fun G B => (f G B).map fun p => .nx G p.2
theorem es_drop (he : EV X mu e fz f) (hs : swapsWith e none pos.line X.env = pure false := by rfl) : ES X mu rm (.Expr e pos) (sDrop f) := ps_imp (ps_expr he hs) fun D σ H ⟨g, O, G, B, oc, F, hb, e, q⟩ => by
  unfold sDrop at e
  cases e1 : f G B with
  | none => rw [e1] at e; cases e
  | some p =>
    rw [e1] at e; cases e
    refine ⟨g, O, G, B, p.1, p.2, F, hb, e1, fun v H' A Gt => ?_⟩
    exact q σ H' O (F.step0 hb Gt.ext Gt.bag) Gt.bag (Gt.ext.sub F hb Gt.bag)
def sSet (i : Nat) (f : DE) : DS := fun G B => (f G B).map fun p => .nx (G.set i (some p.1)) p.2
theorem set_imp {i : Nat} {m : Md} (hm : mu[i]? = some m) (D : Ends) (σ : L2.St) (H : Hp) (h : tS X.K mu rm (sSet i f) D σ H) : tE X.K mu (.val m) f σ H fun x H1 => D.nx (σ.set i (some x)) H1 := by
  obtain ⟨g, O, G, B, oc, F, hb, e, q⟩ := h
  unfold sSet at e
  cases e1 : f G B with
  | none => rw [e1] at e; cases e
  | some p =>
    rw [e1] at e; cases e
    exact ⟨g, O, G, B, p.1, p.2, F, hb, e1, fun v H' A Gt => q _ H' _ (F.set hb Gt hm) Gt.bag (Gt.sub F hb)⟩
theorem es_set {i : Nat} {x : Str} {m : Md} {pos' : Pos} (hN : X.N.Nodup) (hi : X.N[i]? = some x) (hx : Loc X.env.scope x) (he : EV X mu e (.val m) f) (hm : mu[i]? = some m := by rfl) (hs : swapsWith e (some (.Name x pos')) pos.line X.env = pure false := by rfl) (hf : X.fn x = true ∨ X.env.scope.names.lookup x = some .local := by first | exact .inl rfl | exact .inr rfl | assumption) :
    ES X mu rm (.Assign [.Name x pos'] e pos) (sSet i f) := ps_imp (ps_set hN hi hx he hs hf) fun D σ H h => set_imp hm D σ H h
end
end Xa
/-! XB2: several names at once; own lists and dicts changed. -/
namespace Xa
open PySem PySem.Spec
open PyProof.Rows L2

/-- a frame with its slots' own addresses told -/
structure FrA (K : PySem.W.Frag) (g : Bg) (O : Addr → Prop) (mu : List Md) (G : Gam) (σ : L2.St) (H : Hp) (As : Nat → List Addr) : Prop where
  ok : g.Ok
  sub : ∀ a, g.O0 a → O a
  dom : ∀ a, O a → H a ≠ none
  ext0 : ∀ a o, a ≠ g.b → g.H0 a = some o → H a = some o
  len : G.length = σ.length
  nd : ∀ i, (As i).Nodup
  dj : ∀ i j, i ≠ j → ∀ a ∈ As i, a ∉ As j
  ss : ∀ i, ∀ a ∈ As i, O a ∧ ¬ g.O0 a ∧ g.H0 a = none
  sl : ∀ (i : Nat) (d : D), G[i]? = some (some d) → ∃ m v, mu[i]? = some m ∧ σ[i]? = some (some v) ∧ Ow K g.b O H m v d (As i)
section
variable {K : PySem.W.Frag} {b l : Addr} {O O1 O2 : Addr → Prop} {H H1 H2 : Hp} {g : Bg} {mu : List Md} {G : Gam} {σ : L2.St} {B B' : Bag} {rm : Rm} {As : Nat → List Addr}
theorem Fr.told (F : Fr K g O mu G σ H) : ∃ As, FrA K g O mu G σ H As := by
  obtain ⟨As, nd, dj, ss, sl⟩ := F.slots
  exact ⟨As, F.ok, F.sub, F.dom, F.ext0, F.len, nd, dj, ss, sl⟩
theorem FrA.fr (F : FrA K g O mu G σ H As) : Fr K g O mu G σ H := ⟨F.ok, F.sub, F.dom, F.ext0, F.len, As, F.nd, F.dj, F.ss, F.sl⟩
/-- the step, the addresses kept -/
theorem FrA.step {A : List Addr} (F : FrA K g O mu G σ H As) (hb : BagAt g.b g.l H B) (x : Ext g.b H H1) (fr : ∀ a ∈ A, H a = none) (dm : ∀ a ∈ A, H1 a ≠ none) (hb' : H1 g.b ≠ none) : FrA K g (orA O A) mu G σ H1 As := by
  have F1 := F.fr.step hb x fr dm hb'
  have hoff : Off O g.b H H1 := hb.off F.fr.ob x
  have eqv : ∀ a, H a ≠ none → (orA O A a ↔ O a) := fun a n => ⟨fun z => z.elim id fun m => absurd (fr a m) n, .inl⟩
  refine ⟨F1.ok, F1.sub, F1.dom, F1.ext0, F1.len, F.nd, F.dj, fun i a m => ⟨.inl (F.ss i a m).1, (F.ss i a m).2⟩, fun i d e => ?_⟩
  obtain ⟨m, v, h1, h2, h3⟩ := F.sl i d e
  exact ⟨m, v, h1, h2, (Ow.off hoff eqv).1 h3 fun z => (F.ss i _ z).2.1 F.ok.b0⟩
/-- another value in a slot; A: what it owns, nobody else's -/
theorem FrA.put {m : Md} {v : V} {d : D} {A : List Addr} {i : Nat} (F : FrA K g O mu G σ H As) (h : Ow K g.b O H m v d A) (hn : A.Nodup) (ha : ∀ j, ∀ a ∈ A, a ∉ As j) (h0 : ∀ a ∈ A, ¬ g.O0 a ∧ g.H0 a = none) (hm : mu[i]? = some m) :
    ∃ At, At i = A ∧ (∀ j, j ≠ i → At j = As j) ∧ FrA K g O mu (G.set i (some d)) (σ.set i (some v)) H At := by
  obtain ⟨At, at1, at2⟩ := slot_put As i A
  refine ⟨At, at1, at2, F.ok, F.sub, F.dom, F.ext0, by rw [List.length_set, List.length_set]; exact F.len, fun j => ?_, fun j k hjk a hj => ?_, fun j a hj => ?_, fun j d' e => ?_⟩
  · by_cases e : j = i
    · rw [e, at1]; exact hn
    · rw [at2 j e]; exact F.nd j
  · by_cases e : j = i
    · rw [e, at1] at hj
      by_cases e2 : k = i
      · exact absurd (e.trans e2.symm) hjk
      · rw [at2 k e2]; exact ha k a hj
    · rw [at2 j e] at hj
      by_cases e2 : k = i
      · rw [e2, at1]; exact fun z => ha j a z hj
      · rw [at2 k e2]; exact F.dj j k hjk a hj
  · by_cases e : j = i
    · rw [e, at1] at hj
      exact ⟨(Ow.dom.1 h a hj).1, h0 a hj⟩
    · rw [at2 j e] at hj
      exact F.ss j a hj
  · by_cases e1 : j = i
    · subst e1
      have hl : j < G.length := by
        have := (List.getElem?_eq_some_iff.mp e).1
        simpa using this
      rw [List.getElem?_set_self hl] at e
      cases e
      exact ⟨m, v, hm, by rw [List.getElem?_set_self (by rw [← F.len]; exact hl)], by rw [at1]; exact h⟩
    · rw [List.getElem?_set_ne (Ne.symm e1)] at e
      obtain ⟨m', v', h1, h2, h3⟩ := F.sl j d' e
      exact ⟨m', v', h1, by rw [List.getElem?_set_ne (Ne.symm e1)]; exact h2, by rw [at2 j e1]; exact h3⟩
def setG (G : Gam) : List Nat → List D → Gam
  | i :: is, d :: ds => setG (G.set i (some d)) is ds
  | _, _ => G
def setV (σ : L2.St) : List Nat → List V → L2.St
  | i :: is, v :: vs => setV (σ.set i (some v)) is vs
  | _, _ => σ
theorem FrA.puts : ∀ (is : List Nat) {ms : List Md} {vs : List V} {ds : List D} {A : List Addr} {G : Gam} {σ : L2.St} {As : Nat → List Addr}, FrA K g O mu G σ H As → RwL K g.b O H (ms.map Rm.val) vs ds A → A.Nodup → (∀ j, ∀ a ∈ A, a ∉ As j) → (∀ a ∈ A, ¬ g.O0 a ∧ g.H0 a = none) →
    is.map (fun i => mu[i]?) = ms.map some → ∃ At, FrA K g O mu (setG G is ds) (setV σ is vs) H At
  | [], ms, vs, ds, A, G, σ, As, F, _, _, _, _, _ => ⟨As, F⟩
  | i :: is, ms, vs, ds, A, G, σ, As, F, h, hn, ha, h0, hm => by
    cases ms with
    | nil => simp at hm
    | cons m ms =>
      cases h with
      | @cons _ _ v vs d ds A1 A2 h1 h2 =>
        rw [List.map_cons, List.map_cons] at hm
        injection hm with hm1 hm2
        obtain ⟨n1, n2, n3⟩ := List.nodup_append.mp hn
        obtain ⟨At, at1, at2, F1⟩ := F.put h1 n1 (fun j a z => ha j a (List.mem_append_left _ z)) (fun a z => h0 a (List.mem_append_left _ z)) hm1
        refine FrA.puts is F1 h2 n2 (fun j a z => ?_) (fun a z => h0 a (List.mem_append_right _ z)) hm2
        by_cases e : j = i
        · rw [e, at1]
          exact fun y => n3 a y a z rfl
        · rw [at2 j e]
          exact ha j a (List.mem_append_right _ z)
end
section
variable {X : Cx} {mu : List Md} {rm : Rm} {e c a b : Expr} {es : List Expr} {f f1 f2 : DE} {fs : DA} {pos pt p2 px py pz : Pos}
def sSets (is : List Nat) (fs : DA) : DS := fun G B => (fs G B).map fun p => .nx (setG G is p.1) p.2
theorem sets_imp {is : List Nat} {ms : List Md} (hm : is.map (fun i => mu[i]?) = ms.map some) (D : Ends) (σ : L2.St) (H : Hp) (h : tS X.K mu rm (sSets is fs) D σ H) : tL X.K mu (ms.map Rm.val) fs σ H fun vs H1 => D.nx (setV σ is vs) H1 := by
  obtain ⟨g, O, G, B, oc, F, hb, e, q⟩ := h
  unfold sSets at e
  cases e1 : fs G B with
  | none => rw [e1] at e; cases e
  | some p =>
    rw [e1] at e; cases e
    refine ⟨g, O, G, B, p.1, p.2, F, hb, e1, fun vs H' A Gt => ?_⟩
    obtain ⟨As, FA⟩ := F.told
    have FA1 := FA.step hb Gt.ext Gt.fresh (fun a z => (Gt.rw_.dom a z).2) Gt.bag.ne
    obtain ⟨At, F2⟩ := FA1.puts is Gt.rw_ Gt.nd (fun j a z y => F.dom a (FA.ss j a y).1 (Gt.fresh a z)) (fun a z => ⟨F.not0 (Gt.fresh a z), F.fresh0 hb (Gt.fresh a z)⟩) hm
    refine q _ H' _ F2.fr Gt.bag ?_
    refine ⟨fun a o n h => Gt.ext a o (fun e => n (e ▸ F.ob)) h, fun a vs h => Gt.ext a _ (fun e => by exact (hb.noT (e ▸ h)).elim) h, fun a h => .inl h, fun a h => h.elim .inl fun m => .inr (Gt.fresh a m), fun a h => ?_⟩
    by_cases e : a = g.b
    · exact e ▸ Gt.bag.ne
    · cases q : H a with
      | none => exact absurd q h
      | some o => rw [Gt.ext a o e q]; simp
/-- a, b = x, y (plain locals) -/
theorem es_par {i j : Nat} {x y : Str} {kt k2 : _} {m1 m2 : Md} (hc : X.calm = true) (hN : X.N.Nodup) (hi : X.N[i]? = some x) (hj : X.N[j]? = some y) (hij : i ≠ j) (hx : X.env.scope.names.lookup x = some .local) (hy : X.env.scope.names.lookup y = some .local) (ha : AV X mu [a, b] [.val m1, .val m2] fs)
    (hm : [i, j].map (fun i => mu[i]?) = [some m1, some m2]) (hw : swappedStores [.Tuple [.Name x px, .Name y py] kt pt] (.Tuple [a, b] k2 p2) X.env = pure (some [x, y])) (hs : swapsWithSole [.Tuple [.Name x px, .Name y py] kt pt] (.Tuple [a, b] k2 p2) pos.line X.env = pure false := by rfl) :
    ES X mu rm (.Assign [.Tuple [.Name x px, .Name y py] kt pt] (.Tuple [a, b] k2 p2) pos) (sSets [i, j] fs) := ps_imp (ps_par hc hN hi hj hij hx hy ha hw hs) fun D σ H h => by
  obtain ⟨g, O, G, B, ds, B', F, hb, e, q⟩ := sets_imp (ms := [m1, m2]) hm D σ H h
  refine ⟨g, O, G, B, ds, B', F, hb, e, fun vs H' A Gt => ?_⟩
  have hv := q vs H' A Gt
  cases Gt.rw_ with
  | cons h1 t => cases t with | cons h2 t => cases t; exact ⟨_, _, rfl, hv⟩
/-- targets of a tuple -/
def gNames : List Nat → TGs
  | [] => gNil
  | i :: is => gCons (gName i) (gNames is)
theorem gNames_of {Q : L2.St → Hp → Prop} {H : Hp} : ∀ {is : List Nat} {vs : List V} {σ : L2.St}, is.length = vs.length → Q (setV σ is vs) H → gNames is vs σ H Q
  | [], [], σ, _, q => ⟨rfl, q⟩
  | i :: is, v :: vs, σ, hl, q => ⟨v, vs, rfl, gNames_of (by simpa using hl) q⟩
  | [], _ :: _, _, hl, _ => by simp at hl
  | _ :: _, [], _, hl, _ => by simp at hl
/-- a, b = e: e a tuple of so many -/
def sUnpack (is : List Nat) (f : DE) : DS := fun G B => (f G B).bind fun p => match p.1 with
  | .tup ds => if ds.length = is.length then some (.nx (setG G is ds) p.2) else none
  | _ => none
theorem OwL.rwl {K : PySem.W.Frag} {b : Addr} {O : Addr → Prop} {H : Hp} {m : Md} : ∀ {vs : List V} {ds : List D} {A : List Addr}, OwL K b O H m vs ds A → RwL K b O H ((List.replicate ds.length m).map Rm.val) vs ds A
  | [], ds, A, h => by cases h; exact .nil
  | v :: r, ds, A, h => by
    obtain ⟨d, ds', A1, A2, rfl, rfl, p, q⟩ := h.cons_inv
    exact .cons p (OwL.rwl q)
theorem es_unpack {is : List Nat} {m : Md} {tg : Expr} {ts : List Expr} {k : _} (he : EV X mu e (.val m) f) (hm0 : m ≠ .bag) (hc : X.calm = true) (hg : PGs X ts (gNames is)) (hm : is.map (fun i => mu[i]?) = (List.replicate is.length m).map some) (hn : (assignEach ts X.env).length = is.length := by rfl) (hst : (assignEach ts X.env).findIdx? (·.1) = none := by rfl)
    (hs : swapsWithSole [.Tuple ts k pt] e pos.line X.env = pure false := by rfl) (hw : swappedStores [.Tuple ts k pt] e X.env = pure none := by rfl) (h1 : (assignEach [.Tuple ts k pt] X.env).map (·.2) = [assign (.Tuple ts k pt) X.env] := by rfl) :
    ES X mu rm (.Assign [.Tuple ts k pt] e pos) (sUnpack is f) := ps_imp (ps_asg he (pg_tup hc hg hn hst) hs hw h1) fun D σ H ⟨g, O, G, B, oc, F, hb, e, q⟩ => by
  unfold sUnpack at e
  cases e1 : f G B with
  | none => rw [e1] at e; cases e
  | some p =>
    obtain ⟨d, B1⟩ := p
    rw [e1, Option.bind_some] at e
    cases d with
    | tup ds =>
      simp only at e
      split at e <;> cases e
      rename_i hl
      refine ⟨g, O, G, B, .tup ds, _, F, hb, e1, fun v H' A Gt => ?_⟩
      have r := Gt.rw_
      cases r with
      | @tup _ a vs _ _ _ hq t =>
        obtain ⟨As, FA⟩ := F.told
        have FA1 := FA.step hb Gt.ext Gt.fresh (fun a z => (Gt.rw_.dom a z).2) Gt.bag.ne
        obtain ⟨At, F2⟩ := FA1.puts is t.rwl Gt.nd (fun j a z y => F.dom a (FA.ss j a y).1 (Gt.fresh a z)) (fun a z => ⟨F.not0 (Gt.fresh a z), F.fresh0 hb (Gt.fresh a z)⟩) (by rw [hl]; exact hm)
        refine ⟨a, vs, rfl, .inl (.inl hq), by rw [t.len, hl], gNames_of (by rw [t.len, hl]) ?_⟩
        exact q _ H' _ F2.fr Gt.bag (Gt.sub F hb)
    | _ => cases e
/-- an atom in a slot of whatever mode -/
theorem ev_nameA {i : Nat} {x : Str} {pos : Pos} {m : Md} (hp : PE X (.Name x pos) (tVar i)) (hm : mu[i]? = some m) (k : m ≠ .bag := by decide) : EV X mu (.Name x pos) fz (dAtom (dVar i)) := pe_imp hp fun σ H Q ⟨g, O, G, B, d, B', F, hb, e1, q⟩ => by
  unfold dAtom dVar at e1
  cases e2 : gat G i with
  | none => simp [e2] at e1
  | some d0 =>
    simp only [e2, Option.map_some, Option.bind_some] at e1
    split at e1 <;> cases e1
    rename_i hat
    obtain ⟨m', v, h1, h2, h3⟩ := F.told.choose_spec.sl i d (gat_some e2)
    rw [hm] at h1; cases h1
    refine ⟨v, h2, q v H [] ⟨fun _ _ _ h => h, (fun a z => nomatch z), List.nodup_nil, hb, ?_⟩⟩
    exact (Ow.atom h3 k (show Md.frz ≠ .bag by decide) hat : Ow X.K g.b (orA O []) H .frz v d [])
end
end Xa
/-! XB3: own lists and dicts changed. -/
namespace Xa
open PySem PySem.Spec
open PyProof.Rows L2
section
variable {K : PySem.W.Frag} {b l : Addr} {O O1 O2 : Addr → Prop} {H H1 H2 : Hp} {g : Bg} {mu : List Md} {G : Gam} {σ : L2.St} {B B' : Bag} {rm : Rm} {As : Nat → List Addr} {i : Nat} {a : Addr}
/-- the object at a is another one -/
theorem off_upd {o u : HO} (oa : O a) (h : H a = some u) (nt : ∀ vs, u ≠ .tup vs) (nf : ∀ x y, u ≠ .frz x y) : Off O a H (upd H a o) :=
  ⟨oa, fun vs r => by
    rcases r with r | ⟨x, r⟩
    · rw [h] at r; exact nt vs (Option.some.inj r)
    · rw [h] at r; exact nf _ _ (Option.some.inj r), fun c w n e => by rw [upd_ne n]; exact e⟩
theorem FrA.mut {u o : HO} {d : D} {v : V} (F : FrA K g O mu G σ H As) (hA : As i = [a]) (hv : σ[i]? = some (some v)) (hu : H a = some u) (nt : ∀ vs, u ≠ .tup vs) (nf : ∀ x y, u ≠ .frz x y) (hm : mu[i]? = some (.own .frz)) (hn : Ow K g.b O (upd H a o) (.own .frz) v d [a]) :
    FrA K g O mu (G.set i (some d)) σ (upd H a o) As := by
  have ha : a ∈ As i := by rw [hA]; exact List.mem_cons_self
  obtain ⟨oa, n0, h0⟩ := F.ss i a ha
  have hoff : Off O a H (upd H a o) := off_upd oa hu nt nf
  refine ⟨F.ok, F.sub, fun c z => ?_, fun c w n e => ?_, by rw [List.length_set]; exact F.len, F.nd, F.dj, F.ss, fun j d' e => ?_⟩
  · by_cases e : c = a
    · rw [e, upd_same]; simp
    · rw [upd_ne e]; exact F.dom c z
  · have ne : c ≠ a := fun z => by rw [z, h0] at e; cases e
    rw [upd_ne ne]; exact F.ext0 c w n e
  · by_cases e1 : j = i
    · subst e1
      have hl : j < G.length := by
        have := (List.getElem?_eq_some_iff.mp e).1
        simpa using this
      rw [List.getElem?_set_self hl] at e
      cases e
      exact ⟨_, v, hm, hv, by rw [hA]; exact hn⟩
    · rw [List.getElem?_set_ne (Ne.symm e1)] at e
      obtain ⟨m', v', h1, h2, h3⟩ := F.sl j d' e
      exact ⟨m', v', h1, h2, (Ow.off hoff fun _ _ => Iff.rfl).1 h3 fun z => F.dj i j (Ne.symm e1) a ha z⟩
theorem FrA.own {m : Md} {d : D} (F : FrA K g O mu G σ H As) (h : gat G i = some d) (hm : mu[i]? = some (.own m)) (hd : (∃ ds, d = .lst ds) ∨ ∃ kvs, d = .dic kvs) : ∃ a v A u, σ[i]? = some (some v) ∧ v = .ref a ∧ As i = a :: A ∧ H a = some u ∧ (∀ vs, u ≠ .tup vs) ∧ (∀ x y, u ≠ .frz x y) ∧ Ow K g.b O H (.own m) v d (a :: A) := by
  obtain ⟨m', v, h1, h2, h3⟩ := F.sl i d (gat_some h)
  rw [hm] at h1; cases h1
  generalize hAs : As i = A0 at h3
  cases h3 with
  | lstO p q r t => exact ⟨_, _, _, _, h2, rfl, rfl, r, (fun _ z => by cases z), (fun _ _ z => by cases z), .lstO p q r t⟩
  | dkO p q r t => exact ⟨_, _, _, _, h2, rfl, rfl, r, (fun _ z => by cases z), (fun _ _ z => by cases z), .dkO p q r t⟩
  | dtO p q r t => exact ⟨_, _, _, _, h2, rfl, rfl, r, (fun _ z => by cases z), (fun _ _ z => by cases z), .dtO p q r t⟩
  | _ => rcases hd with ⟨_, e⟩ | ⟨_, e⟩ <;> cases e
theorem sub_upd {o u : HO} (oa : O a) (h : H a = some u) (nt : ∀ vs, u ≠ .tup vs) : Sub O O H (upd H a o) := by
  refine ⟨fun c w n e => ?_, fun c vs e => ?_, fun _ h => h, fun _ h => .inl h, fun c n => ?_⟩
  · rw [upd_ne fun z => n (by rw [z]; exact oa)]; exact e
  · rw [upd_ne fun z => by rw [z, h] at e; exact nt vs (Option.some.inj e)]; exact e
  · by_cases e : c = a
    · rw [e, upd_same]; simp
    · rw [upd_ne e]; exact n
theorem BagAt.upd {o : HO} (h : BagAt g.b g.l H B) (n1 : a ≠ g.b) (n2 : a ≠ g.l) (nt : ∀ vs, H a ≠ some (.tup vs)) : BagAt g.b g.l (L2.upd H a o) B :=
  h.keep (fun c vs z => by rw [upd_ne (fun e => nt vs (by rw [← e]; exact z))]; exact z) (upd_ne (Ne.symm n1)) (upd_ne (Ne.symm n2))
end
/-- a list's method: by values, over data; w: what it gives back -/
def MtD (X : Cx) (r : V → List V → Hp → VK → Prop) (f : List D → List D → Option (List D × D)) : Prop :=
  ∀ (b : Addr) (O : Addr → Prop) (H : Hp) (a : Addr) (vs ws : List V) (ds es ds' : List D) (d : D), H a = some (.lst vs) → OwL X.K b O H .frz vs ds [] → OwL X.K b O H .frz ws es [] → f ds es = some (ds', d) →
    ∃ vs' w, OwL X.K b O H .frz vs' ds' [] ∧ Ow X.K b O H .frz w d [] ∧ ∀ Q : VK, Q w (upd H a (.lst vs')) → r (.ref a) ws H Q
section
variable {X : Cx} {mu : List Md} {rm : Rm} {e c : Expr} {es : List Expr} {f f1 f2 : DE} {fs : DA} {pos pt p2 apos cpos : Pos} {i j : Nat} {x : Str} {name : Str} {id : String} {r : V → List V → Hp → VK → Prop} {fm : List D → List D → Option (List D × D)}
/-- the list in slot i, behind the arguments -/
def dMt (i : Nat) (fm : List D → List D → Option (List D × D)) (fs : DA) : Gam → Bag → Option (D × Gam × Bag) := fun G B => (fs G B).bind fun p => (gat G i).bind fun d => match d with
  | .lst ds => (fm ds p.1).map fun q => (q.2, G.set i (some (.lst q.1)), p.2)
  | _ => none
theorem mt_core (hmt : MtD X r fm) (hm : mu[i]? = some (.own .frz)) {n : Nat} {σ : L2.St} {H : Hp} {g : Bg} {O : Addr → Prop} {G G' : Gam} {B B' : Bag} {d : D} {R : VK} (F : Fr X.K g O mu G σ H) (hb : BagAt g.b g.l H B) (e : dMt i fm fs G B = some (d, G', B'))
    (q : ∀ w H' O', Fr X.K g O' mu G' σ H' → BagAt g.b g.l H' B' → Sub O O' H H' → Ow X.K g.b O' H' .frz w d [] → R w H') :
    ∃ v, σ[i]? = some (some v) ∧ tyV X.K "list" v H ∧ tL X.K mu (List.replicate n fz) fs σ H fun ws H1 => r v ws H1 R := by
  unfold dMt at e
  cases e1 : fs G B with
  | none => rw [e1] at e; cases e
  | some p =>
    obtain ⟨es, B1⟩ := p
    cases e2 : gat G i with
    | none => simp [e1, e2] at e
    | some d0 =>
      simp only [e1, e2, Option.bind_some] at e
      cases d0 with
      | lst ds =>
        simp only at e
        cases e3 : fm ds es with
        | none => rw [e3] at e; cases e
        | some q3 =>
          obtain ⟨ds', d'⟩ := q3
          rw [e3] at e; cases e
          obtain ⟨As, FA⟩ := F.told
          obtain ⟨a, v, A, u, hv, rfl, hA, hu, nt, nf, how⟩ := FA.own e2 hm (.inl ⟨_, rfl⟩)
          cases how with
          | lstO p0 oa ha t =>
            have hA0 : A = [] := Ow.noA.2 t (.inr (.inl rfl))
            subst hA0
            refine ⟨_, hv, .inl ⟨rfl, _, .inl (.inl ha)⟩, g, O, G, B, es, _, F, hb, e1, fun ws H1 A1 G1 => ?_⟩
            have FA1 := FA.step hb G1.ext G1.fresh (fun a z => (G1.rw_.dom a z).2) G1.bag.ne
            obtain ⟨a1, v1, A', u1, hv1, hr1, hA1, hu1, nt1, nf1, how1⟩ := FA1.own e2 hm (.inl ⟨_, rfl⟩)
            rw [hA1] at hA
            cases hA
            rw [hv1] at hv; cases hv
            cases how1 with
            | lstO p1 oa1 ha1 t1 =>
              have tws : OwL X.K g.b (orA O A1) H1 .frz ws es [] := by
                have := RwL.own G1.rw_
                have hz := Ow.noA.2 this (.inr (.inl rfl))
                rw [hz] at this ⊢
                exact this
              obtain ⟨vs', w, t2, t3, t4⟩ := hmt g.b (orA O A1) H1 a _ ws ds es ds' _ ha1 t1 tws e3
              have hai : a ∈ As i := by rw [hA1]; exact List.mem_cons_self
              obtain ⟨oa', n0, h0⟩ := FA1.ss i a hai
              have nb : a ≠ g.b := fun z => n0 (z ▸ F.ok.b0)
              have nl : a ≠ g.l := fun z => n0 (z ▸ F.ok.l0)
              have hoff : Off (orA O A1) a H1 (upd H1 a (.lst vs')) := off_upd oa' ha1 (fun _ z => by cases z) fun _ _ z => by cases z
              have n2 := FA1.mut (o := .lst vs') (d := .lst ds') hA1 hv1 ha1 (fun _ z => by cases z) (fun _ _ z => by cases z) hm (.lstO (by decide) oa' upd_same ((Ow.off hoff fun _ _ => Iff.rfl).2 t2 fun z => nomatch z))
              refine t4 _ (q w _ _ n2.fr (G1.bag.upd nb nl (fun _ z => by rw [ha1] at z; cases z)) ?_ ((Ow.off hoff fun _ _ => Iff.rfl).1 t3 fun z => nomatch z))
              have s1 : Sub O (orA O A1) H H1 := by
                refine ⟨fun a o n h => G1.ext a o (fun e => n (e ▸ F.ob)) h, fun a vs h => G1.ext a _ (fun e => by exact (hb.noT (e ▸ h)).elim) h, fun a h => .inl h, fun a h => h.elim .inl fun m => .inr (G1.fresh a m), fun a h => ?_⟩
                by_cases e : a = g.b
                · exact e ▸ G1.bag.ne
                · cases q : H a with
                  | none => exact absurd q h
                  | some o => rw [G1.ext a o e q]; simp
              exact s1.trans (sub_upd oa' ha1 fun _ z => by cases z)
      | _ => cases e
/-- x.append(e), as a statement -/
def sMt (i : Nat) (fm : List D → List D → Option (List D × D)) (fs : DA) : DS := fun G B => (dMt i fm fs G B).map fun p => .nx p.2.1 p.2.2
theorem es_mt {n : Nat} (slot : Slot "list" name id) (hty : typeOf (.builtin id) = pure (.type "method_descriptor")) (hr : MtR X id r) (hmt : MtD X r fm) (hx : PE X (.Name x p2) (tVar i)) (hm : mu[i]? = some (.own .frz)) (ha : AV X mu (e :: es) (List.replicate n fz) fs)
    (hbase : attributeBase (.Name x p2) name X.env (eval (.Name x p2) X.env) = eval (.Name x p2) X.env := by rfl)
    (hfew : ((backTo cpos (starEach (e :: es) X.env)).all (fun x => !x.1) && (backToKw cpos (keywordEach [] X.env)).all (fun x => x.1.isSome) && decide ((e :: es).length + ([] : List Keyword).length + (if ([] : List Keyword).isEmpty then 0 else 1) < 30)) = true := by rfl)
    (hline : (apos.endLine == cpos.line) = true := by rfl) (hs : starEach (e :: es) X.env = (false, eval e X.env) :: starEach es X.env := by rfl) (hplain : (backTo cpos (starEach es X.env)).any (·.1) = false := by rfl)
    (hsw : swapsWith (.Call (.Attribute (.Name x p2) name apos) (e :: es) [] cpos) none pos.line X.env = pure false := by rfl) : ES X mu rm (.Expr (.Call (.Attribute (.Name x p2) name apos) (e :: es) [] cpos) pos) (sMt i fm fs) :=
  ps_imp (ps_expr (pe_bm PySem.F.plainAttrs_list slot hty hr hx ha hbase hfew hline hs hplain) hsw) fun D σ H ⟨g, O, G, B, oc, F, hb, e, q⟩ => by
    unfold sMt at e
    cases e1 : dMt i fm fs G B with
    | none => rw [e1] at e; cases e
    | some p =>
      rw [e1] at e; cases e
      exact mt_core hmt hm F hb e1 fun w H' O' F' b' s' _ => q σ H' O' F' b' s'
theorem es_mt0 (slot : Slot "list" name id) (hty : typeOf (.builtin id) = pure (.type "method_descriptor")) (hr : MtR X id r) (hmt : MtD X r fm) (hx : PE X (.Name x p2) (tVar i)) (hm : mu[i]? = some (.own .frz))
    (hbase : attributeBase (.Name x p2) name X.env (eval (.Name x p2) X.env) = eval (.Name x p2) X.env := by rfl) (hline : (apos.endLine == cpos.line) = true := by rfl)
    (hsw : swapsWith (.Call (.Attribute (.Name x p2) name apos) [] [] cpos) none pos.line X.env = pure false := by rfl) : ES X mu rm (.Expr (.Call (.Attribute (.Name x p2) name apos) [] [] cpos) pos) (sMt i fm dNil) :=
  ps_imp (ps_expr (pe_bm0 PySem.F.plainAttrs_list slot hty hr hx hbase hline) hsw) fun D σ H ⟨g, O, G, B, oc, F, hb, e, q⟩ => by
    unfold sMt at e
    cases e1 : dMt i fm dNil G B with
    | none => rw [e1] at e; cases e
    | some p =>
      rw [e1] at e; cases e
      obtain ⟨v, h1, h2, h3⟩ := mt_core (n := 0) hmt hm F hb e1 fun w H' O' F' b' s' _ => q σ H' O' F' b' s'
      obtain ⟨g2, O2, G2, B2, ds2, B2', F2, hb2, e2, q2⟩ := h3
      cases e2
      exact ⟨v, h1, h2, q2 [] H [] ⟨fun _ _ _ h => h, (fun a z => nomatch z), List.nodup_nil, hb2, .nil⟩⟩
/-- y = x.pop(..) -/
def sMtSet (j i : Nat) (fm : List D → List D → Option (List D × D)) (fs : DA) : DS := fun G B => (dMt i fm fs G B).map fun p => .nx (p.2.1.set j (some p.1)) p.2.2
theorem put_frz {K : PySem.W.Frag} {g : Bg} {O : Addr → Prop} {G : Gam} {σ : L2.St} {H : Hp} {w : V} {d : D} (F : Fr K g O mu G σ H) (h : Ow K g.b O H .frz w d []) (hj : mu[j]? = some .frz) : Fr K g O mu (G.set j (some d)) (σ.set j (some w)) H := by
  obtain ⟨As, FA⟩ := F.told
  obtain ⟨At, _, _, F2⟩ := FA.put h List.nodup_nil (fun _ a z => nomatch z) (fun a z => nomatch z) hj
  exact F2.fr
theorem es_mtSet {n : Nat} {y : Str} {py : Pos} (hN : X.N.Nodup) (hj : X.N[j]? = some y) (hy : Loc X.env.scope y) (slot : Slot "list" name id) (hty : typeOf (.builtin id) = pure (.type "method_descriptor")) (hr : MtR X id r) (hmt : MtD X r fm) (hx : PE X (.Name x p2) (tVar i)) (hm : mu[i]? = some (.own .frz)) (hmj : mu[j]? = some .frz) (ha : AV X mu (e :: es) (List.replicate n fz) fs)
    (hbase : attributeBase (.Name x p2) name X.env (eval (.Name x p2) X.env) = eval (.Name x p2) X.env := by rfl)
    (hfew : ((backTo cpos (starEach (e :: es) X.env)).all (fun x => !x.1) && (backToKw cpos (keywordEach [] X.env)).all (fun x => x.1.isSome) && decide ((e :: es).length + ([] : List Keyword).length + (if ([] : List Keyword).isEmpty then 0 else 1) < 30)) = true := by rfl)
    (hline : (apos.endLine == cpos.line) = true := by rfl) (hs : starEach (e :: es) X.env = (false, eval e X.env) :: starEach es X.env := by rfl) (hplain : (backTo cpos (starEach es X.env)).any (·.1) = false := by rfl)
    (hsw : swapsWith (.Call (.Attribute (.Name x p2) name apos) (e :: es) [] cpos) (some (.Name y py)) pos.line X.env = pure false := by rfl) (hf : X.fn y = true ∨ X.env.scope.names.lookup y = some .local := by first | exact .inl rfl | exact .inr rfl | assumption) :
    ES X mu rm (.Assign [.Name y py] (.Call (.Attribute (.Name x p2) name apos) (e :: es) [] cpos) pos) (sMtSet j i fm fs) :=
  ps_imp (ps_set hN hj hy (pe_bm PySem.F.plainAttrs_list slot hty hr hx ha hbase hfew hline hs hplain) hsw hf) fun D σ H ⟨g, O, G, B, oc, F, hb, e, q⟩ => by
    unfold sMtSet at e
    cases e1 : dMt i fm fs G B with
    | none => rw [e1] at e; cases e
    | some p =>
      rw [e1] at e; cases e
      exact mt_core hmt hm F hb e1 fun w H' O' F' b' s' h' => q _ H' O' (put_frz F' h' hmj) b' s'
theorem es_mtSet0 {y : Str} {py : Pos} (hN : X.N.Nodup) (hj : X.N[j]? = some y) (hy : Loc X.env.scope y) (slot : Slot "list" name id) (hty : typeOf (.builtin id) = pure (.type "method_descriptor")) (hr : MtR X id r) (hmt : MtD X r fm) (hx : PE X (.Name x p2) (tVar i)) (hm : mu[i]? = some (.own .frz)) (hmj : mu[j]? = some .frz)
    (hbase : attributeBase (.Name x p2) name X.env (eval (.Name x p2) X.env) = eval (.Name x p2) X.env := by rfl) (hline : (apos.endLine == cpos.line) = true := by rfl)
    (hsw : swapsWith (.Call (.Attribute (.Name x p2) name apos) [] [] cpos) (some (.Name y py)) pos.line X.env = pure false := by rfl) (hf : X.fn y = true ∨ X.env.scope.names.lookup y = some .local := by first | exact .inl rfl | exact .inr rfl | assumption) :
    ES X mu rm (.Assign [.Name y py] (.Call (.Attribute (.Name x p2) name apos) [] [] cpos) pos) (sMtSet j i fm dNil) :=
  ps_imp (ps_set hN hj hy (pe_bm0 PySem.F.plainAttrs_list slot hty hr hx hbase hline) hsw hf) fun D σ H ⟨g, O, G, B, oc, F, hb, e, q⟩ => by
    unfold sMtSet at e
    cases e1 : dMt i fm dNil G B with
    | none => rw [e1] at e; cases e
    | some p =>
      rw [e1] at e; cases e
      obtain ⟨v, h1, h2, h3⟩ := mt_core (n := 0) hmt hm F hb e1 fun w H' O' F' b' s' h' => q _ H' O' (put_frz F' h' hmj) b' s'
      obtain ⟨g2, O2, G2, B2, ds2, B2', F2, hb2, e2, q2⟩ := h3
      cases e2
      exact ⟨v, h1, h2, q2 [] H [] ⟨fun _ _ _ h => h, (fun a z => nomatch z), List.nodup_nil, hb2, .nil⟩⟩
/-! the methods -/
def mAppend : List D → List D → Option (List D × D) := fun ds es => match es with | [d] => if ds.length < sizeLine then some (ds ++ [d], .non) else none | _ => none
theorem md_append : MtD X rAppend mAppend := by
  intro b O H a vs ws ds es ds' d ha t tw e
  unfold mAppend at e
  split at e
  · split at e <;> cases e
    rename_i hz
    obtain ⟨w, ws', A1, A2, rfl, hA, p, q⟩ := tw.consd_inv
    cases q
    have := Ow.noA.1 p (.inr (.inl rfl))
    subst this
    exact ⟨vs ++ [w], .non, t.appN (OwL.consN p .nil), .non (by decide), fun Q h => ⟨a, vs, w, rfl, rfl, ha, by rw [t.len]; exact hz, h⟩⟩
  · cases e
def mPop : List D → List D → Option (List D × D) := fun ds es => match es with | [] => (ds[ds.length - 1]?).map fun d => (ds.dropLast, d) | _ => none
theorem md_pop : MtD X rPop mPop := by
  intro b O H a vs ws ds es ds' d ha t tw e
  unfold mPop at e
  split at e
  · cases tw
    cases e2 : ds[ds.length - 1]? with
    | none => rw [e2] at e; cases e
    | some d0 =>
      rw [e2] at e; cases e
      obtain ⟨w, h1, h2⟩ := t.get e2
      refine ⟨vs.dropLast, w, ?_, h2, fun Q h => ⟨a, vs, w, rfl, rfl, ha, by rw [t.len]; exact h1, h⟩⟩
      rw [List.dropLast_eq_take, List.dropLast_eq_take, t.len]
      exact t.takeN _
  · cases e
theorem eraseIdx_eq {α : Type} (l : List α) (k : Nat) : l.eraseIdx k = l.take k ++ l.drop (k + 1) := List.eraseIdx_eq_take_drop_succ l k
def mPopAt : List D → List D → Option (List D × D) := fun ds es => match es with
  | [.int i] => if -(2 ^ 63) ≤ i ∧ i < 2 ^ 63 then (seqIndex? i ds.length).bind fun k => (ds[k]?).map fun d => (ds.eraseIdx k, d) else none
  | _ => none
theorem md_popAt : MtD X rPopAt mPopAt := by
  intro b O H a vs ws ds es ds' d ha t tw e
  unfold mPopAt at e
  split at e
  · split at e
    · rename_i hz
      obtain ⟨w, ws', A1, A2, rfl, hA, p, q⟩ := tw.consd_inv
      cases q
      cases p
      cases e1 : seqIndex? _ ds.length with
      | none => rw [e1] at e; cases e
      | some k =>
        rw [e1, Option.bind_some] at e
        cases e2 : ds[k]? with
        | none => rw [e2] at e; cases e
        | some d0 =>
          rw [e2] at e; cases e
          obtain ⟨w, h1, h2⟩ := t.get e2
          refine ⟨vs.eraseIdx k, w, ?_, h2, fun Q h => ⟨a, vs, _, k, w, rfl, rfl, ha, hz.1, hz.2, by rw [t.len]; exact e1, h1, h⟩⟩
          rw [eraseIdx_eq, eraseIdx_eq]
          exact (t.takeN _).appN (t.dropN _)
    · cases e
  · cases e
def mReverse : List D → List D → Option (List D × D) := fun ds es => match es with | [] => some (ds.reverse, .non) | _ => none
theorem OwL.rev {K : PySem.W.Frag} {b : Addr} {O : Addr → Prop} {H : Hp} : ∀ {vs : List V} {ds : List D}, OwL K b O H .frz vs ds [] → OwL K b O H .frz vs.reverse ds.reverse []
  | [], ds, h => by cases h; exact .nil
  | v :: r, ds, h => by
    obtain ⟨d, ds', A1, A2, rfl, hA, p, q⟩ := h.cons_inv
    have h1 := Ow.noA.1 p (.inr (.inl rfl))
    have h2 := Ow.noA.2 q (.inr (.inl rfl))
    subst h1 h2
    rw [List.reverse_cons, List.reverse_cons]; exact (OwL.rev q).appN (OwL.consN p .nil)
theorem md_reverse : MtD X rReverse mReverse := by
  intro b O H a vs ws ds es ds' d ha t tw e
  unfold mReverse at e
  split at e <;> cases e
  cases tw
  exact ⟨vs.reverse, .non, t.rev, .non (by decide), fun Q h => ⟨a, vs, rfl, rfl, ha, h⟩⟩
def rInsertL : V → List V → Hp → VK → Prop := fun x vs H Q => ∃ (l : Addr) (xs : List V) (i : Int) (y : V), x = .ref l ∧ vs = [.int i, y] ∧ H l = some (.lst xs) ∧ xs.length < sizeLine ∧ 0 ≤ i ∧ i < 2 ^ 63 ∧ Q .non (upd H l (.lst (xs.take i.toNat ++ [y] ++ xs.drop i.toNat)))
def mInsert : List D → List D → Option (List D × D) := fun ds es => match es with
  | [.int i, d] => if ds.length < sizeLine ∧ 0 ≤ i ∧ i < 2 ^ 63 then some (ds.take i.toNat ++ [d] ++ ds.drop i.toNat, .non) else none
  | _ => none
theorem md_insert : MtD X rInsertL mInsert := by
  intro b O H a vs ws ds es ds' d ha t tw e
  unfold mInsert at e
  split at e
  · split at e <;> cases e
    rename_i hz
    obtain ⟨w, ws', A1, A2, rfl, hA, p, q⟩ := tw.consd_inv
    cases p
    obtain ⟨w2, ws', A3, A4, rfl, hA', p2, q⟩ := q.consd_inv
    cases q
    have := Ow.noA.1 p2 (.inr (.inl rfl))
    subst this
    exact ⟨_, .non, ((t.takeN _).appN (OwL.consN p2 .nil)).appN (t.dropN _), .non (by decide), fun Q h => ⟨a, vs, _, w2, rfl, rfl, ha, by rw [t.len]; exact hz.1, hz.2.1, hz.2.2, h⟩⟩
  · cases e
end
end Xa
/-! XB4: what is walked; list comprehensions. -/
namespace Xa
open PySem PySem.Spec
open PyProof.Rows L2

/-- the walk J gives ds, one by one -/
def Yields (K : PySem.W.Frag) (b : Addr) (O : Addr → Prop) (J : It) (ds : List D) (H : Hp) : Prop :=
  (∀ (i : Nat) (d : D), ds[i]? = some d → J.go i H ∧ ∀ x H', J.yld i H x H' → Grow H H' ∧ Ow K b O H' .frz x d []) ∧ J.stop ds.length H
/-- .. whatever a comprehension's turns do; whatever a loop's turns do -/
def WalkC (K : PySem.W.Frag) (b : Addr) (O : Addr → Prop) (J : It) (ds : List D) (H1 : Hp) : Prop := ∀ O' H', Ext b H1 H' → (∀ a, H1 a ≠ none → (O' a ↔ O a)) → (∃ vb : BO, H' b = some vb.1) → Yields K b O' J ds H'
def WalkS (K : PySem.W.Frag) (b : Addr) (O : Addr → Prop) (J : It) (ds : List D) (H1 : Hp) : Prop := ∀ O' H', Sub O O' H1 H' → (∃ vb : BO, H' b = some vb.1) → O' b → Yields K b O' J ds H'
def tI (wk : PySem.W.Frag → Addr → (Addr → Prop) → It → List D → Hp → Prop) (K : PySem.W.Frag) (mu : List Md) (f : DA) : TI := fun σ H R => ∃ (g : Bg) (O : Addr → Prop) (G : Gam) (B : Bag) (ds : List D) (B' : Bag), Fr K g O mu G σ H ∧ BagAt g.b g.l H B ∧ f G B = some (ds, B') ∧
  ∀ J H1, Ext g.b H H1 → BagAt g.b g.l H1 B' → wk K g.b O J ds H1 → R J H1
def EIC (X : Cx) (mu : List Md) (tg iter : Expr) (f : DA) : Prop := PI X tg iter (tI WalkC X.K mu f)
def EIS (X : Cx) (mu : List Md) (tg iter : Expr) (f : DA) : Prop := PI X tg iter (tI WalkS X.K mu f)
theorem pi_imp {X : Cx} {tg iter : Expr} {w w' : TI} (h : PI X tg iter w) (z : ∀ σ H R, w' σ H R → w σ H R) : PI X tg iter w' := ⟨fun pins s σ H R I q => h.run pins s σ H R I (z σ H R q)⟩
theorem pi_or {X : Cx} {tg iter : Expr} {w w' : TI} (h : PI X tg iter w) (h' : PI X tg iter w') : PI X tg iter (fun σ H R => w σ H R ∨ w' σ H R) := ⟨fun pins s σ H R I q => q.elim (h.run pins s σ H R I) (h'.run pins s σ H R I)⟩

def signs (z : Str) : List D := z.cps.toList.map fun c => .str ⟨#[c]⟩
def items : D → Option (List D)
  | .lst ds => some ds
  | .tup ds => some ds
  | .str z => some (signs z)
  | _ => none
def dItems (f : DE) : DA := fun G B => (f G B).bind fun p => (items p.1).map fun ds => (ds, p.2)
section
variable {K : PySem.W.Frag} {b l : Addr} {O O1 O' : Addr → Prop} {H H1 H' : Hp} {g : Bg} {mu : List Md} {G : Gam} {σ : L2.St} {B B' : Bag} {a : Addr}
theorem yields_list {vs : List V} {ds : List D} (h : SqL K H a vs) (t : OwL K b O H .frz vs ds []) : Yields K b O (Itl K a) ds H := by
  refine ⟨fun i d e => ?_, ⟨vs, h, by rw [t.len]; exact Nat.le_refl _⟩⟩
  obtain ⟨v, e1, e2⟩ := t.get e
  refine ⟨⟨vs, v, h, e1⟩, fun x H' y => ?_⟩
  obtain ⟨rfl, y⟩ := y
  have := (y vs h).symm.trans e1
  cases this
  exact ⟨fun _ _ h => h, e2⟩
theorem yields_tup {vs : List V} {ds : List D} (h : SqT K H a vs) (t : OwL K b O H .frz vs ds []) : Yields K b O (Itt K a) ds H := by
  refine ⟨fun i d e => ?_, ⟨vs, h, by rw [t.len]; exact Nat.le_refl _⟩⟩
  obtain ⟨v, e1, e2⟩ := t.get e
  refine ⟨⟨vs, v, h, e1⟩, fun x H' y => ?_⟩
  obtain ⟨rfl, y⟩ := y
  have := (y vs h).symm.trans e1
  cases this
  exact ⟨fun _ _ h => h, e2⟩
theorem yields_str (z : Str) : Yields K b O (Its z) (signs z) H := by
  refine ⟨fun i d e => ?_, by show z.cps.size ≤ _; simp [signs]⟩
  have hi : i < z.cps.size := by
    have := (List.getElem?_eq_some_iff.mp e).1
    simpa [signs] using this
  refine ⟨hi, fun x H' y => ?_⟩
  obtain ⟨rfl, c, hc, rfl⟩ := y
  have hc' : z.cps.toList[i]? = some c := by simpa using hc
  have : d = .str ⟨#[c]⟩ := by
    unfold signs at e
    rw [List.getElem?_map, hc'] at e
    exact (Option.some.inj e).symm
  subst this
  exact ⟨fun _ _ h => h, .str (by decide)⟩
theorem yields_range (lo : Int) (n : Nat) : Yields K b O (Itr lo n) ((List.range n).map fun i : Nat => D.int (lo + (i : Int))) H := by
  refine ⟨fun i d e => ?_, by show n ≤ _; simp⟩
  have hi : i < n := by
    have := (List.getElem?_eq_some_iff.mp e).1
    simpa using this
  refine ⟨hi, fun x H' y => ?_⟩
  obtain ⟨rfl, rfl⟩ := y
  rw [List.getElem?_map, List.getElem?_range hi] at e
  cases e
  exact ⟨fun _ _ h => h, .int (by decide)⟩
/-- a frozen thing through a loop's turns -/
theorem Ow.through (x : Sub O O' H H') : (∀ {m v d A}, Ow K b O H m v d A → m = .frz → Ow K b O' H' .frz v d []) ∧ (∀ {m vs ds A}, OwL K b O H m vs ds A → m = .frz → OwL K b O' H' .frz vs ds []) := by
  have nO : ∀ {a u}, ¬ O a → Rd H a u → ¬ O' a := fun {a u} n r z => by
    rcases x.new a z with z | z
    · exact n z
    · rcases r with r | ⟨o, r⟩ <;> (rw [z] at r; cases r)
  have rd : ∀ {a u}, ¬ O a → Rd H a u → Rd H' a u := fun {a u} n r => by
    rcases r with r | ⟨o, r⟩
    · exact .inl (x.keep _ _ n r)
    · exact .inr ⟨o, x.keep _ _ n r⟩
  refine Ow.rec2 (P := fun m v d A => m = .frz → Ow K b O' H' .frz v d []) (PL := fun m vs ds A => m = .frz → OwL K b O' H' .frz vs ds []) ?_ ?_ ?_ ?_ ?_ ?_ ?_ ?_ ?_ ?_ ?_ ?_ ?_ ?_
  · exact fun h => nomatch h
  · exact fun _ _ => .non (by decide)
  · exact fun _ _ => .bl (by decide)
  · exact fun _ _ => .int (by decide)
  · exact fun _ _ => .str (by decide)
  · exact fun _ q _ ih e => .tup (by decide) (x.tups _ _ q) (ih e)
  · exact fun n r _ ih _ => .lstF (nO n r) (rd n r) (ih rfl)
  · exact fun _ _ _ _ _ h => nomatch h
  · exact fun n r z _ ih _ => .dkF (nO n r) (rd n r) (fun e => x.keep _ _ n (z e)) (ih rfl)
  · exact fun _ _ _ _ _ h => nomatch h
  · exact fun n r z _ ih _ => .dtF (nO n r) (rd n r) (fun e => x.keep _ _ n (z e)) (ih rfl)
  · exact fun _ _ _ _ _ h => nomatch h
  · exact fun _ => .nil
  · exact fun _ _ i1 i2 e => OwL.consN (i1 e) (i2 e)
end
section
variable {X : Cx} {mu : List Md} {tg iter : Expr} {f : DE} {pos p : Pos}
/-- a list, a tuple, a text -/
theorem eic_of (h : EV X mu iter .vw f) : EIC X mu tg iter (dItems f) := pi_imp (pi_or (pi_list h) (pi_or (pi_tup h) (pi_str h))) fun σ H R ⟨g, O, G, B, ds, B', F, hb, e, q⟩ => by
  unfold dItems at e
  cases e1 : f G B with
  | none => rw [e1] at e; cases e
  | some p =>
    obtain ⟨d, B1⟩ := p
    rw [e1, Option.bind_some] at e
    have go : ∀ {v H1 A}, Got X.K g.b g.l O H H1 B1 .vw v d A → Vw X.K g.b O H1 v d := fun G1 => by
      have h := G1.rw_
      obtain ⟨rfl, w⟩ := h
      rw [orN] at w; exact w
    have off : ∀ {v A} {H1 H' : Hp} {O' : Addr → Prop}, Got X.K g.b g.l O H H1 B1 .vw v d A → Ext g.b H1 H' → (∀ a, H1 a ≠ none → (O' a ↔ O a)) → Rw X.K g.b O' H' .vw v d [] := fun G1 x ho => Rw.off (G1.bag.off F.ob x) ho ⟨rfl, go G1⟩ fun z => nomatch z
    cases d with
    | lst ds' =>
      cases e
      refine .inl ⟨g, O, G, B, _, _, F, hb, e1, fun v H1 A G1 => ?_⟩
      obtain ⟨a, vs, rfl, r, t⟩ := (go G1).lst_inv
      refine ⟨a, rfl, ⟨vs, .inl r⟩, q _ H1 G1.ext G1.bag fun O' H' x ho _ => ?_⟩
      obtain ⟨a', vs', e', r', t'⟩ := (off G1 x ho).2.lst_inv
      cases e'
      exact yields_list (.inl r') t'
    | tup ds' =>
      cases e
      refine .inr (.inl ⟨g, O, G, B, _, _, F, hb, e1, fun v H1 A G1 => ?_⟩)
      obtain ⟨a, vs, rfl, r, t⟩ := (go G1).tup_inv
      refine ⟨a, rfl, ⟨vs, r⟩, q _ H1 G1.ext G1.bag fun O' H' x ho _ => ?_⟩
      obtain ⟨a', vs', e', r', t'⟩ := (off G1 x ho).2.tup_inv
      cases e'
      exact yields_tup r' t'
    | str z =>
      cases e
      refine .inr (.inr ⟨g, O, G, B, _, _, F, hb, e1, fun v H1 A G1 => ?_⟩)
      refine ⟨z, (go G1).str_inv, q _ H1 G1.ext G1.bag fun O' H' x ho _ => yields_str z⟩
    | _ => cases e
theorem eis_of (h : EV X mu iter fz f) : EIS X mu tg iter (dItems f) := pi_imp (pi_or (pi_list h) (pi_or (pi_tup h) (pi_str h))) fun σ H R ⟨g, O, G, B, ds, B', F, hb, e, q⟩ => by
  unfold dItems at e
  cases e1 : f G B with
  | none => rw [e1] at e; cases e
  | some p =>
    obtain ⟨d, B1⟩ := p
    rw [e1, Option.bind_some] at e
    have go : ∀ {v H1 A}, Got X.K g.b g.l O H H1 B1 fz v d A → Ow X.K g.b O H1 .frz v d [] := fun G1 => by
      have h := G1.rw_
      have hA := Ow.noA.1 h (.inr (.inl rfl))
      subst hA
      rw [orN] at h; exact h
    cases d with
    | lst ds' =>
      cases e
      refine .inl ⟨g, O, G, B, _, _, F, hb, e1, fun v H1 A G1 => ?_⟩
      obtain ⟨a, vs, rfl, n, r, t⟩ := (go G1).lstF_inv
      refine ⟨a, rfl, ⟨vs, .inl r⟩, q _ H1 G1.ext G1.bag fun O' H' x _ _ => ?_⟩
      obtain ⟨a', vs', e', n', r', t'⟩ := ((Ow.through x).1 (go G1) rfl).lstF_inv
      cases e'
      exact yields_list (.inl r') t'
    | tup ds' =>
      cases e
      refine .inr (.inl ⟨g, O, G, B, _, _, F, hb, e1, fun v H1 A G1 => ?_⟩)
      obtain ⟨a, vs, rfl, r, t⟩ := (go G1).tupF_inv
      refine ⟨a, rfl, ⟨vs, .inl (.inl r)⟩, q _ H1 G1.ext G1.bag fun O' H' x _ _ => ?_⟩
      obtain ⟨a', vs', e', r', t'⟩ := ((Ow.through x).1 (go G1) rfl).tupF_inv
      cases e'
      exact yields_tup (.inl (.inl r')) t'
    | str z =>
      cases e
      refine .inr (.inr ⟨g, O, G, B, _, _, F, hb, e1, fun v H1 A G1 => ?_⟩)
      refine ⟨z, (Vw.of (go G1)).str_inv, q _ H1 G1.ext G1.bag fun O' H' x _ _ => yields_str z⟩
    | _ => cases e
/-- range(n), range(a, b) -/
def rangeD (lo hi : Int) : List D := (List.range (hi - lo).toNat).map fun i : Nat => D.int (lo + (i : Int))
def dRange1 (f : DE) : DA := fun G B => (f G B).bind fun p => match p.1 with
  | .int j => if -(2 ^ 62) ≤ j ∧ j < 2 ^ 62 then some (rangeD 0 j, p.2) else none
  | _ => none
def dRange2 (f1 f2 : DE) : DA := fun G B => (f1 G B).bind fun p => (f2 G p.2).bind fun q => match p.1, q.1 with
  | .int i, .int j => if -(2 ^ 62) ≤ i ∧ i < 2 ^ 62 ∧ -(2 ^ 62) ≤ j ∧ j < 2 ^ 62 then some (rangeD i j, q.2) else none
  | _, _ => none
theorem rng1_imp {wk : PySem.W.Frag → Addr → (Addr → Prop) → It → List D → Hp → Prop} (hw : ∀ b O H lo n, wk X.K b O (Itr lo n) ((List.range n).map fun i : Nat => D.int (lo + (i : Int))) H) (σ : L2.St) (H : Hp) (R : It → Hp → Prop) (h : tI wk X.K mu (dRange1 f) σ H R) : iRng1 (tCons (tE X.K mu fz f) tNil) σ H R := by
  obtain ⟨g, O, G, B, ds, B', F, hb, e, q⟩ := h
  unfold dRange1 at e
  cases e1 : f G B with
  | none => rw [e1] at e; cases e
  | some p =>
    obtain ⟨d, B1⟩ := p
    rw [e1, Option.bind_some] at e
    cases d with
    | int j =>
      simp only at e
      split at e <;> cases e
      rename_i hj
      refine ⟨g, O, G, B, _, _, F, hb, e1, fun v H1 A G1 => ?_⟩
      have ev : v = .int j := by have h := G1.rw_; cases h; rfl
      subst ev
      refine ⟨j, rfl, hj.1, hj.2, q _ H1 G1.ext G1.bag ?_⟩
      have := hw g.b O H1 0 j.toNat
      unfold rangeD
      rw [Int.sub_zero]
      exact this
    | _ => cases e
theorem rng2_imp {f2 : DE} {wk : PySem.W.Frag → Addr → (Addr → Prop) → It → List D → Hp → Prop} (hw : ∀ b O H lo n, wk X.K b O (Itr lo n) ((List.range n).map fun i : Nat => D.int (lo + (i : Int))) H) (σ : L2.St) (H : Hp) (R : It → Hp → Prop) (h : tI wk X.K mu (dRange2 f f2) σ H R) : iRng2 (tCons (tE X.K mu fz f) (tCons (tE X.K mu fz f2) tNil)) σ H R := by
  obtain ⟨g, O, G, B, ds, B', F, hb, e, q⟩ := h
  unfold dRange2 at e
  cases e1 : f G B with
  | none => rw [e1] at e; cases e
  | some p =>
    obtain ⟨d, B1⟩ := p
    cases e2 : f2 G B1 with
    | none => simp [e1, e2] at e
    | some p2 =>
      obtain ⟨d2, B2⟩ := p2
      simp only [e1, e2, Option.bind_some] at e
      cases d with
      | int i =>
        cases d2 with
        | int j =>
          simp only at e
          split at e <;> cases e
          rename_i hj
          refine ⟨g, O, G, B, _, _, F, hb, e1, fun v H1 A G1 => ?_⟩
          have ev : v = .int i := by have h := G1.rw_; cases h; rfl
          have hA : A = [] := Ow.noA.1 G1.rw_ (.inr (.inl rfl))
          subst ev hA
          refine ⟨g, O, G, B1, _, _, F.step0 hb G1.ext G1.bag, G1.bag, e2, fun v2 H2 A2 G2 => ?_⟩
          have ev : v2 = .int j := by have h := G2.rw_; cases h; rfl
          subst ev
          exact ⟨i, j, rfl, ⟨hj.1, hj.2.1, hj.2.2.1, hj.2.2.2⟩, q _ H2 (fun a o n z => G2.ext a o n (G1.ext a o n z)) G2.bag (hw _ _ _ _ _)⟩
        | _ => cases e
      | _ => cases e
variable {a c : Expr} {f2 : DE}
theorem eic_range1 (hg : Gl X "range") (hm : X.mg "range" = none) (ha : EV X mu a fz f) (hs : starEach [a] X.env = [(false, eval a X.env)] := by rfl) (hs1 : starEach [a] X.env = (false, eval a X.env) :: starEach [] X.env := by rfl) : EIC X mu tg (.Call (.Name "range" p) [a] [] pos) (dRange1 f) :=
  pi_imp (pi_range1 hg hm (pa_cons ha pa_nil hs1) hs) (rng1_imp fun _ _ _ _ _ _ _ _ _ _ => yields_range _ _)
theorem eis_range1 (hg : Gl X "range") (hm : X.mg "range" = none) (ha : EV X mu a fz f) (hs : starEach [a] X.env = [(false, eval a X.env)] := by rfl) (hs1 : starEach [a] X.env = (false, eval a X.env) :: starEach [] X.env := by rfl) : EIS X mu tg (.Call (.Name "range" p) [a] [] pos) (dRange1 f) :=
  pi_imp (pi_range1 hg hm (pa_cons ha pa_nil hs1) hs) (rng1_imp fun _ _ _ _ _ _ _ _ _ _ => yields_range _ _)
theorem eic_range2 (hg : Gl X "range") (hm : X.mg "range" = none) (ha : EV X mu a fz f) (hc : EV X mu c fz f2) (hs : starEach [a, c] X.env = [(false, eval a X.env), (false, eval c X.env)] := by rfl) (hs2 : starEach [c] X.env = [(false, eval c X.env)] := by rfl) (hs3 : starEach [a, c] X.env = (false, eval a X.env) :: starEach [c] X.env := by rfl) (hs4 : starEach [c] X.env = (false, eval c X.env) :: starEach [] X.env := by rfl) : EIC X mu tg (.Call (.Name "range" p) [a, c] [] pos) (dRange2 f f2) :=
  pi_imp (pi_range2 hg hm (pa_cons ha (pa_cons hc pa_nil hs4) hs3) hs hs2) (rng2_imp fun _ _ _ _ _ _ _ _ _ _ => yields_range _ _)
theorem eis_range2 (hg : Gl X "range") (hm : X.mg "range" = none) (ha : EV X mu a fz f) (hc : EV X mu c fz f2) (hs : starEach [a, c] X.env = [(false, eval a X.env), (false, eval c X.env)] := by rfl) (hs2 : starEach [c] X.env = [(false, eval c X.env)] := by rfl) (hs3 : starEach [a, c] X.env = (false, eval a X.env) :: starEach [c] X.env := by rfl) (hs4 : starEach [c] X.env = (false, eval c X.env) :: starEach [] X.env := by rfl) : EIS X mu tg (.Call (.Name "range" p) [a, c] [] pos) (dRange2 f f2) :=
  pi_imp (pi_range2 hg hm (pa_cons ha (pa_cons hc pa_nil hs4) hs3) hs hs2) (rng2_imp fun _ _ _ _ _ _ _ _ _ _ => yields_range _ _)
end

/-! ### comprehensions -/
/-- what is done with a turn's item: the slots, over data -/
abbrev TgD := Gam → D → Option Gam
def tgName (i : Nat) : TgD := fun G d => some (G.set i (some d))
def tgTup (is : List Nat) : TgD := fun G d => match d with
  | .tup ds => if ds.length = is.length then some (setG G is ds) else none
  | _ => none
def wipeG (G : Gam) : List Nat → Gam
  | [] => G
  | v :: vs => (wipeG G vs).set v none
def dYes : DT := fun _ B => some (true, B)
def compGo (tgt : TgD) (u : DT) (f : DE) (G : Gam) : List D → Bag → Option (List D × Bag)
  | [], B => some ([], B)
  | d :: r, B => (tgt G d).bind fun G1 => (u G1 B).bind fun c => if c.1 = true then (f G1 c.2).bind fun p => (compGo tgt u f G r p.2).map fun q => (p.1 :: q.1, q.2) else compGo tgt u f G r c.2
def dComp (src : DA) (own : List Nat) (tgt : TgD) (u : DT) (f : DE) : DE := fun G B => (src G B).bind fun p => if p.1.length ≤ sizeLine then (compGo tgt u f (wipeG G own) p.1 p.2).map fun q => (.lst q.1, q.2) else none
/-- a target does with the item what tgt does -/
def TgOk (K : PySem.W.Frag) (mu : List Md) (own : List Nat) (g : TG) (tgt : TgD) : Prop :=
  ∀ (c : Bg) (O : Addr → Prop) (G G1 : Gam) (σ : L2.St) (H : Hp) (x : V) (d : D) (Q : L2.St → Hp → Prop), Fr K c O mu G σ H → Ow K c.b O H .frz x d [] → tgt G d = some G1 → (∀ σ2, Fr K c O mu G1 σ2 H → (∀ τ : L2.St, σ = wipe τ own → wipe σ2 own = wipe τ own) → Q σ2 H) → g x σ H Q
end Xa
/-! XB5: list comprehensions. -/
namespace Xa
open PySem PySem.Spec
open PyProof.Rows L2
theorem wipe_at : ∀ (vs : List Nat) (σ : L2.St) (j : Nat), (wipe σ vs)[j]? = if j ∈ vs then (σ[j]?).map (fun _ => none) else σ[j]?
  | [], σ, j => by simp [wipe]
  | v :: vs, σ, j => by
    unfold wipe
    rw [List.getElem?_set]
    by_cases e : v = j
    · subst e
      simp only [↓reduceIte, List.mem_cons, true_or, wipe_length]
      by_cases hl : v < σ.length
      · simp [hl]
      · simp [hl]
    · rw [if_neg e, wipe_at vs σ j]
      have : (j ∈ v :: vs) ↔ j ∈ vs := by
        rw [List.mem_cons]
        exact ⟨fun h => h.elim (fun z => absurd z.symm e) id, .inr⟩
      by_cases h : j ∈ vs <;> simp [h, this, Ne.symm e]
theorem wipe_set {vs : List Nat} {i : Nat} (hi : i ∈ vs) (σ : L2.St) (y : Option V) : wipe (σ.set i y) vs = wipe σ vs := by
  apply List.ext_getElem?
  intro j
  rw [wipe_at, wipe_at, List.getElem?_set]
  by_cases e : i = j
  · subst e
    simp only [hi, ↓reduceIte]
    by_cases hl : i < σ.length <;> simp [hl]
  · simp [e]
theorem wipe_idem (vs : List Nat) (σ : L2.St) : wipe (wipe σ vs) vs = wipe σ vs := by
  apply List.ext_getElem?
  intro j
  rw [wipe_at, wipe_at]
  by_cases h : j ∈ vs <;> simp [h, Function.comp_def]
theorem wipe_setV {vs : List Nat} : ∀ (is : List Nat) (xs : List V) (σ : L2.St), (∀ i ∈ is, i ∈ vs) → wipe (setV σ is xs) vs = wipe σ vs
  | [], _, σ, _ => rfl
  | i :: is, [], σ, _ => rfl
  | i :: is, x :: xs, σ, h => by
    show wipe (setV (σ.set i (some x)) is xs) vs = _
    rw [wipe_setV is xs _ fun j hj => h j (List.mem_cons_of_mem _ hj), wipe_set (h i List.mem_cons_self)]
theorem wipeG_at : ∀ (vs : List Nat) (G : Gam) (j : Nat) (d : D), (wipeG G vs)[j]? = some (some d) → G[j]? = some (some d) ∧ j ∉ vs
  | [], G, j, d, h => ⟨h, fun z => nomatch z⟩
  | v :: vs, G, j, d, h => by
    unfold wipeG at h
    rw [List.getElem?_set] at h
    by_cases e : v = j
    · rw [if_pos e] at h
      split at h <;> cases h
    · rw [if_neg e] at h
      obtain ⟨h1, h2⟩ := wipeG_at vs G j d h
      exact ⟨h1, fun z => (List.mem_cons.mp z).elim (fun z => e z.symm) h2⟩
theorem wipeG_len (G : Gam) : ∀ vs, (wipeG G vs).length = G.length
  | [] => rfl
  | v :: vs => by unfold wipeG; rw [List.length_set, wipeG_len G vs]
section
variable {K : PySem.W.Frag} {b l : Addr} {O O1 O' : Addr → Prop} {H H1 H' : Hp} {g : Bg} {mu : List Md} {G : Gam} {σ : L2.St} {B B' : Bag} {a : Addr}
theorem Fr.wiped (F : Fr K g O mu G σ H) (vs : List Nat) : Fr K g O mu (wipeG G vs) (wipe σ vs) H := by
  obtain ⟨As, nd, dj, ss, sl⟩ := F.slots
  refine ⟨F.ok, F.sub, F.dom, F.ext0, by rw [wipeG_len, wipe_length]; exact F.len, As, nd, dj, ss, fun i d e => ?_⟩
  obtain ⟨h1, h2⟩ := wipeG_at vs G i d e
  obtain ⟨m, v, q1, q2, q3⟩ := sl i d h1
  exact ⟨m, v, q1, by rw [wipe_at, if_neg h2]; exact q2, q3⟩
theorem tgOk_name {own : List Nat} {i : Nat} (hi : i ∈ own) (hm : mu[i]? = some .frz) : TgOk K mu own (gName i) (tgName i) := by
  intro c O G G1 σ H x d Q F h e q
  cases e
  exact q _ (put_frz F h hm) fun τ e => by rw [e, wipe_set hi, wipe_idem]
theorem tgOk_tup {own : List Nat} {is : List Nat} (hi : ∀ i ∈ is, i ∈ own) (hm : is.map (fun i => mu[i]?) = (List.replicate is.length Md.frz).map some) : TgOk K mu own (gTup K is.length (gNames is)) (tgTup is) := by
  intro c O G G1 σ H x d Q F h e q
  unfold tgTup at e
  split at e
  · split at e <;> cases e
    rename_i ds hl
    obtain ⟨p, vs, rfl, hs, t⟩ := h.tupF_inv
    obtain ⟨As, FA⟩ := F.told
    obtain ⟨At, F2⟩ := FA.puts is t.rwl List.nodup_nil (fun _ a z => nomatch z) (fun a z => nomatch z) (by rw [hl]; exact hm)
    refine ⟨p, vs, rfl, .inl (.inl hs), by rw [t.len, hl], gNames_of (by rw [t.len, hl]) ?_⟩
    exact q _ F2.fr fun τ e => by rw [e, wipe_setV is vs _ hi, wipe_idem]
  · cases e
end
/-- the frame in which the new list stands, and what was made so far -/
theorem Fr.more {K : PySem.W.Frag} {g : Bg} {O O' : Addr → Prop} {mu : List Md} {G : Gam} {σ : L2.St} {H H' : Hp} {B B' : Bag} (F : Fr K g O mu G σ H) (hb : BagAt g.b g.l H B) (x : Ext g.b H H') (hb' : BagAt g.b g.l H' B') (ho : ∀ a, H a ≠ none → (O' a ↔ O a)) (hd : ∀ a, O' a → H' a ≠ none) : Fr K g O' mu G σ H' := by
  obtain ⟨As, nd, dj, ss, sl⟩ := F.slots
  have hoff : Off O g.b H H' := hb.off F.ob x
  refine ⟨F.ok, fun a z => (ho a (F.dom a (F.sub a z))).mpr (F.sub a z), hd, fun a o n e => x a o n (F.ext0 a o n e), F.len, As, nd, dj, fun i a m => ⟨(ho a (F.dom a (ss i a m).1)).mpr (ss i a m).1, (ss i a m).2⟩, fun i d e => ?_⟩
  obtain ⟨m, v, h1, h2, h3⟩ := sl i d e
  exact ⟨m, v, h1, h2, (Ow.off hoff ho).1 h3 fun z => (ss i _ z).2.1 F.ok.b0⟩
section
variable {X : Cx} {mu : List Md} {tg iter elt : Expr} {ifs : List Expr} {src : DA} {f : DE} {u : DT} {pos p : Pos} {own : List (Str × Nat)} {scope : Scope} {gt : TG} {tgt : TgD} {m : Md}
def EIfs (X : Cx) (mu : List Md) (ifs : List Expr) (u : DT) : Prop := PTs X ifs (tTs X.K mu u)
theorem pts_imp {X : Cx} {e : List Expr} {t t' : TT} (h : PTs X e t) (w : ∀ σ H Q, t' σ H Q → t σ H Q) : PTs X e t' := ⟨fun pins s σ H Q I q => h.run pins s σ H Q I (w σ H Q q)⟩
theorem eifs_nil : EIfs X mu [] dYes := pts_imp pts_nil fun σ H Q ⟨g, O, G, B, c, B', F, hb, e, q⟩ => by
  cases e; exact q H (fun _ _ _ h => h) hb
theorem eifs_one {c : Expr} (h : ET X mu c u) : EIfs X mu [c] u := pts_one h
theorem comp_imp (hm : m ≠ .bag) (hg : TgOk X.K mu (own.map (·.2)) gt tgt) (σ : L2.St) (H : Hp) (Q : VK) (h : tE X.K mu (.val (.own m)) (dComp src (own.map (·.2)) tgt u f) σ H Q) :
    tLc (tI WalkC X.K mu src) gt (tTs X.K mu u) (tE X.K mu (.val m) f) (own.map (·.2)) σ H Q := by
  obtain ⟨g, O, G, B, d, B', F, hb, e, q⟩ := h
  unfold dComp at e
  cases e1 : src G B with
  | none => rw [e1] at e; cases e
  | some p =>
    obtain ⟨ds, B1⟩ := p
    rw [e1, Option.bind_some] at e
    simp only at e
    split at e
    · rename_i hz
      cases e2 : compGo tgt u f (wipeG G (own.map (·.2))) ds B1 with
      | none => rw [e2] at e; cases e
      | some q2 =>
        obtain ⟨es, B2⟩ := q2
        rw [e2] at e
        cases e
        refine ⟨g, O, G, B, ds, B1, F, hb, e1, fun J H1 x1 b1 wk Dd nD => ?_⟩
        have F1 := F.step0 hb x1 b1
        have Dne : ∀ {c o}, H1 c = some o → c ≠ Dd := fun h z => by rw [z, nD] at h; cases h
        -- the word of turn i
        refine ⟨fun i k H => k = ds.length - i ∧ i ≤ ds.length ∧ ∃ (acc : List V) (accD : List D) (A : List Addr) (Bi : Bag) (rest : List D), H Dd = some (.lst acc) ∧ acc.length ≤ i ∧ OwL X.K g.b (orA O (Dd :: A)) H m acc accD A ∧ compGo tgt u f (wipeG G (own.map (·.2))) (ds.drop i) Bi = some (rest, B2) ∧ accD ++ rest = es ∧
            Ext g.b H1 H ∧ BagAt g.b g.l H Bi ∧ (∀ a ∈ A, H1 a = none) ∧ (Dd :: A).Nodup, ⟨ds.length, by simp, Nat.zero_le _, [], [], [], B1, es, upd_same, Nat.le_refl _, .nil, e2, rfl, fun a o n h => by rw [upd_ne (Dne h)]; exact h, b1.grow (fun a o z => by rw [upd_ne (Dne z)]; exact z), (fun a z => nomatch z), by simp⟩, ?_⟩
        rintro i k Hi ⟨rfl, hi, acc, accD, A, Bi, rest, hD, hl, t, ec, ee, xi, bi, fA, nd⟩
        have eqv : ∀ a, H1 a ≠ none → (orA O (Dd :: A) a ↔ O a) := fun a n => ⟨fun z => z.elim id fun z => (List.mem_cons.mp z).elim (fun e => absurd nD (e ▸ n)) fun z => absurd (fA a z) n, .inl⟩
        have dmA : ∀ a ∈ A, Hi a ≠ none := fun a z => (Ow.dom.2 t a z).2
        have dmO : ∀ a, orA O (Dd :: A) a → Hi a ≠ none := fun a z => by
          rcases z with z | z
          · by_cases e : a = g.b
            · exact e ▸ bi.ne
            · cases h : H1 a with
              | none => exact absurd h (F1.dom a z)
              | some o => rw [xi a o e h]; simp
          · rcases List.mem_cons.mp z with e | z
            · rw [e, hD]; simp
            · exact dmA a z
        have Fi : Fr X.K g (orA O (Dd :: A)) mu (wipeG G (own.map (·.2))) (wipe σ (own.map (·.2))) Hi := (F1.more b1 xi bi eqv dmO).wiped _
        have yl := wk (orA O (Dd :: A)) Hi xi eqv bi.box
        by_cases hlt : i < ds.length
        · obtain ⟨dI, hdI⟩ : ∃ dI, ds[i]? = some dI := ⟨ds[i], List.getElem?_eq_getElem hlt⟩
          obtain ⟨go, yld⟩ := yl.1 i dI hdI
          have edrop : ds.drop i = dI :: ds.drop (i + 1) := by
            rw [List.drop_eq_getElem_cons hlt]; rw [List.getElem?_eq_getElem hlt] at hdI
            cases hdI; rfl
          rw [edrop] at ec
          unfold compGo at ec
          cases c1 : tgt (wipeG G (own.map (·.2))) dI with
          | none => rw [c1] at ec; cases ec
          | some G1 =>
            rw [c1, Option.bind_some] at ec
            cases c2 : u G1 Bi with
            | none => rw [c2] at ec; cases ec
            | some p2 =>
              obtain ⟨c, Bc⟩ := p2
              simp only [c2, Option.bind_some] at ec
              refine .inr ⟨go, fun H => ∃ (acc : List V) (accD : List D) (A : List Addr) (Bi : Bag) (rest : List D), H Dd = some (.lst acc) ∧ acc.length ≤ i + 1 ∧ OwL X.K g.b (orA O (Dd :: A)) H m acc accD A ∧ compGo tgt u f (wipeG G (own.map (·.2))) (ds.drop (i + 1)) Bi = some (rest, B2) ∧ accD ++ rest = es ∧
                  Ext g.b H1 H ∧ BagAt g.b g.l H Bi ∧ (∀ a ∈ A, H1 a = none) ∧ (Dd :: A).Nodup, fun H' h => ⟨ds.length - (i + 1), by omega, rfl, hlt, h⟩, fun x H' y => ?_⟩
              obtain ⟨gr, ox⟩ := yld x H' y
              have b' : BagAt g.b g.l H' Bi := bi.grow gr
              have xg : Ext g.b Hi H' := fun a o _ h => gr a o h
              have F' : Fr X.K g (orA O (Dd :: A)) mu (wipeG G (own.map (·.2))) (wipe σ (own.map (·.2))) H' := Fi.more bi xg b' (fun _ _ => Iff.rfl) fun a z => by
                cases h : Hi a with
                | none => exact absurd h (dmO a z)
                | some o => rw [gr a o h]; simp
              refine hg g _ _ G1 _ H' x dI _ F' ox c1 fun σ2 F2 hw => ⟨hw σ rfl, ?_⟩
              refine ⟨g, _, G1, Bi, c, Bc, F2, b', c2, fun H3 x3 b3 => ?_⟩
              have F3 := F2.step0 b' x3 b3
              have xi3 : Ext g.b Hi H3 := fun a o n h => x3 a o n (gr a o h)
              have offi : Off (orA O (Dd :: A)) g.b Hi H3 := bi.off (.inl F.ob) xi3
              have nbA : g.b ∉ A := fun z => b1.ne (fA _ z)
              have nDb : Dd ≠ g.b := fun z => b1.ne (z ▸ nD)
              have t3 : OwL X.K g.b (orA O (Dd :: A)) H3 m acc accD A := (Ow.off offi fun _ _ => Iff.rfl).2 t nbA
              have hD3 : H3 Dd = some (.lst acc) := xi3 _ _ nDb hD
              have x13 : Ext g.b H1 H3 := fun a o n h => xi3 a o n (xi a o n h)
              cases c with
              | false =>
                rw [if_neg Bool.false_ne_true] at ec
                exact iteF ⟨acc, accD, A, Bc, rest, hD3, by omega, t3, ec, ee, x13, b3, fA, nd⟩
              | true =>
                rw [if_pos rfl] at ec
                refine iteT ?_
                cases c3 : f G1 Bc with
                | none => rw [c3] at ec; cases ec
                | some p3 =>
                  obtain ⟨dE, Be⟩ := p3
                  simp only [c3, Option.bind_some] at ec
                  cases c4 : compGo tgt u f (wipeG G (own.map (·.2))) (ds.drop (i + 1)) Be with
                  | none => rw [c4] at ec; cases ec
                  | some p4 =>
                    obtain ⟨rest', Bl⟩ := p4
                    rw [c4] at ec
                    cases ec
                    refine ⟨g, _, G1, Bc, dE, Be, F3, b3, c3, fun y H4 A4 G4 => ?_⟩
                    have nb4 : g.b ∉ A4 := fun z => b3.ne (G4.fresh _ z)
                    have hD4 : H4 Dd = some (.lst acc) := G4.ext _ _ nDb hD3
                    have off34 : Off (orA O (Dd :: A)) g.b H3 H4 := b3.off (.inl F.ob) G4.ext
                    have eO : orA (orA O (Dd :: A)) A4 = orA O (Dd :: (A ++ A4)) := by
                      funext a
                      simp only [orA, List.mem_cons, List.mem_append, or_assoc]
                    have t4 : OwL X.K g.b (orA O (Dd :: (A ++ A4))) H4 m acc accD A := (Ow.off off34 fun a n => by
                      rw [← eO]
                      exact ⟨fun z => z.elim id fun z => absurd (G4.fresh a z) n, .inl⟩).2 t3 nbA
                    have r4 := G4.rw_
                    rw [eO] at r4
                    have nDA4 : Dd ∉ A4 := fun z => by have := G4.fresh _ z; rw [hD3] at this; cases this
                    obtain ⟨nDA, ndA⟩ := List.nodup_cons.mp nd
                    have dA : ∀ a ∈ A, H3 a ≠ none := fun a z => (Ow.dom.2 t3 a z).2
                    have oD : orA O (Dd :: (A ++ A4)) Dd := .inr List.mem_cons_self
                    have hoff : Off (orA O (Dd :: (A ++ A4))) Dd H4 (upd H4 Dd (.lst (acc ++ [y]))) := off_upd oD hD4 (fun _ z => by cases z) fun _ _ z => by cases z
                    refine ⟨acc, hD4, Nat.lt_of_lt_of_le (Nat.lt_of_le_of_lt hl hlt) hz, acc ++ [y], accD ++ [dE], A ++ A4, Be, rest', upd_same, by rw [List.length_append]; simpa using hl, ?_, c4, by rw [← ee]; simp, fun a o n h => ?_, G4.bag.upd nDb (fun z => by rw [z, b1.cells] at nD; cases nD) (fun _ z => by rw [hD4] at z; cases z), fun a z => ?_, ?_⟩
                    · have h1 := (Ow.off hoff fun _ _ => Iff.rfl).2 t4 nDA
                      have h2 := (Ow.off hoff fun _ _ => Iff.rfl).1 r4 nDA4
                      have h3 : OwL X.K g.b (orA O (Dd :: (A ++ A4))) (upd H4 Dd (.lst (acc ++ [y]))) m [y] [dE] (A4 ++ []) := .cons h2 .nil
                      rw [List.append_nil] at h3
                      exact h1.app h3
                    · rw [upd_ne (Dne h)]
                      exact G4.ext a o n (x13 a o n h)
                    · rcases List.mem_append.mp z with z | z
                      · exact fA a z
                      · cases h : H1 a with
                        | none => rfl
                        | some o =>
                          by_cases e : a = g.b
                          · exact absurd (e ▸ z) nb4
                          · have := G4.fresh a z
                            rw [x13 a o e h] at this; cases this
                    · refine List.nodup_cons.mpr ⟨fun z => (List.mem_append.mp z).elim nDA nDA4, List.nodup_append.mpr ⟨ndA, G4.nd, fun a z c z' ee => ?_⟩⟩
                      subst ee
                      exact dA a z (G4.fresh a z')
        · have ei : i = ds.length := by omega
          subst ei
          rw [List.drop_length] at ec
          unfold compGo at ec
          cases ec
          rw [List.append_nil] at ee
          subst ee
          refine .inl ⟨yl.2, q _ Hi (Dd :: A) ⟨fun a o n h => xi a o n (x1 a o n h), fun a z => ?_, nd, bi, ?_⟩⟩
          · have nn : H1 a = none := (List.mem_cons.mp z).elim (fun e => e ▸ nD) (fA a)
            cases h : H a with
            | none => rfl
            | some o =>
              by_cases e : a = g.b
              · exact (b1.ne (e ▸ nn)).elim
              · rw [x1 a o e h] at nn; cases nn
          · exact Ow.lstO hm (.inr List.mem_cons_self) hD t
    · cases e
theorem ev_comp (hc : X.calm = true) (hN : X.N.Nodup) (hi : EIC X mu tg iter src) (ok : BlkOk X.N X.env.scope scope own) (hm : m ≠ .bag)
    (hg : ∀ (s : Shared) (H : Hp) (C : Addr) (cl : List (Str × Addr)) (fp : List Addr), PG (X.blk s H scope (compEnvC scope cl C X.env) fp) tg gt) (hgt : TgOk X.K mu (own.map (·.2)) gt tgt)
    (ht : ∀ (s : Shared) (H : Hp) (C : Addr) (cl : List (Str × Addr)) (fp : List Addr), EIfs (X.blk s H scope (compEnvC scope cl C X.env) fp) mu ifs u) (he : ∀ (s : Shared) (H : Hp) (C : Addr) (cl : List (Str × Addr)) (fp : List Addr), EV (X.blk s H scope (compEnvC scope cl C X.env) fp) mu elt (.val m) f) (hs : ∀ x, foldedSetIterable iter X.env x = pure x := by intro _; rfl) :
    EV X mu (.ListComp elt [⟨tg, iter, ifs, 0⟩] scope pos) (.val (.own m)) (dComp src (own.map (·.2)) tgt u f) := pe_imp (pe_lc (tt := tTs X.K mu u) (te := tE X.K mu (.val m) f) hc hN hi ok hg ht he hs) (comp_imp hm hgt)
/-- y = [..] -/
theorem es_setComp {rm : Rm} {i : Nat} {y : Str} {py spos : Pos} (hc : X.calm = true) (hN : X.N.Nodup) (hy : X.N[i]? = some y) (hyl : X.env.scope.names.lookup y = some .local) (hsw : swapsWith (.ListComp elt [⟨tg, iter, ifs, 0⟩] scope pos) (some (.Name y py)) spos.line X.env = pure true) (hi : EIC X mu tg iter src) (ok : BlkOk X.N X.env.scope scope own) (hm : m ≠ .bag) (hmi : mu[i]? = some (.own m))
    (hg : ∀ (s : Shared) (H : Hp) (C : Addr) (cl : List (Str × Addr)) (fp : List Addr), PG (X.blk s H scope (compEnvC scope cl C X.env) fp) tg gt) (hgt : TgOk X.K mu (own.map (·.2)) gt tgt)
    (ht : ∀ (s : Shared) (H : Hp) (C : Addr) (cl : List (Str × Addr)) (fp : List Addr), EIfs (X.blk s H scope (compEnvC scope cl C X.env) fp) mu ifs u) (he : ∀ (s : Shared) (H : Hp) (C : Addr) (cl : List (Str × Addr)) (fp : List Addr), EV (X.blk s H scope (compEnvC scope cl C X.env) fp) mu elt (.val m) f) (hs : ∀ x, foldedSetIterable iter X.env x = pure x := by intro _; rfl) :
    ES X mu rm (.Assign [.Name y py] (.ListComp elt [⟨tg, iter, ifs, 0⟩] scope pos) spos) (sSet i (dComp src (own.map (·.2)) tgt u f)) := ps_imp (ps_setLc (tt := tTs X.K mu u) (te := tE X.K mu (.val m) f) hc hN hy hyl hsw hi ok hg ht he hs) fun D σ H h => comp_imp hm hgt σ H _ (set_imp hmi D σ H h)
/-- .. into a slot of frozen things -/
theorem es_setCompF {rm : Rm} {i : Nat} {y : Str} {py spos : Pos} (hc : X.calm = true) (hN : X.N.Nodup) (hy : X.N[i]? = some y) (hyl : X.env.scope.names.lookup y = some .local) (hsw : swapsWith (.ListComp elt [⟨tg, iter, ifs, 0⟩] scope pos) (some (.Name y py)) spos.line X.env = pure true) (hi : EIC X mu tg iter src) (ok : BlkOk X.N X.env.scope scope own) (hm : m ≠ .bag) (hmi : mu[i]? = some .frz)
    (hg : ∀ (s : Shared) (H : Hp) (C : Addr) (cl : List (Str × Addr)) (fp : List Addr), PG (X.blk s H scope (compEnvC scope cl C X.env) fp) tg gt) (hgt : TgOk X.K mu (own.map (·.2)) gt tgt)
    (ht : ∀ (s : Shared) (H : Hp) (C : Addr) (cl : List (Str × Addr)) (fp : List Addr), EIfs (X.blk s H scope (compEnvC scope cl C X.env) fp) mu ifs u) (he : ∀ (s : Shared) (H : Hp) (C : Addr) (cl : List (Str × Addr)) (fp : List Addr), EV (X.blk s H scope (compEnvC scope cl C X.env) fp) mu elt (.val m) f) (hs : ∀ x, foldedSetIterable iter X.env x = pure x := by intro _; rfl) :
    ES X mu rm (.Assign [.Name y py] (.ListComp elt [⟨tg, iter, ifs, 0⟩] scope pos) spos) (sSet i (dComp src (own.map (·.2)) tgt u f)) := ps_imp (ps_setLc (tt := tTs X.K mu u) (te := tE X.K mu (.val m) f) hc hN hy hyl hsw hi ok hg ht he hs) fun D σ H h => comp_imp hm hgt σ H _ (by
    obtain ⟨g, O, G, B, d, B', F, hb, e, q⟩ := set_imp hmi D σ H h
    exact ⟨g, O, G, B, d, B', F, hb, e, fun v H' A Gt => q v H' [] ⟨Gt.ext, (fun a z => nomatch z), List.nodup_nil, Gt.bag, (Ow.freeze fun a z => z.elim .inl fun m => nomatch m).1 Gt.rw_ (fun z => nomatch z) fun a m z => by
      rcases z with z | z
      · exact F.dom a z (Gt.fresh a m)
      · cases z⟩⟩)
end
end Xa
/-! XB6: for, while. -/
namespace Xa
open PySem PySem.Spec
open PyProof.Rows L2
def forGo (tgt : TgD) (body : DS) : List D → Gam → Bag → Option Oc
  | [], G, B => some (.nx G B)
  | d :: r, G, B => (tgt G d).bind fun G1 => (body G1 B).bind fun o => match o with
    | .nx G' B' => forGo tgt body r G' B'
    | .ct G' B' => forGo tgt body r G' B'
    | .bk G' B' => some (.nx G' B')
    | .rt d B' => some (.rt d B')
def sFor (src : DA) (tgt : TgD) (body : DS) : DS := fun G B => (src G B).bind fun p => forGo tgt body p.1 G p.2
def whileGo (u : DT) (body : DS) : Nat → Gam → Bag → Option Oc
  | 0, _, _ => none
  | n + 1, G, B => (u G B).bind fun c => if c.1 = true then (body G c.2).bind fun o => match o with
      | .nx G' B' => whileGo u body n G' B'
      | .ct G' B' => whileGo u body n G' B'
      | .bk G' B' => some (.nx G' B')
      | .rt d B' => some (.rt d B')
    else some (.nx G c.2)
section
variable {X : Cx} {mu : List Md} {rm : Rm} {ow : List Nat} {tg iter c : Expr} {body : List Stmt} {src : DA} {tgt : TgD} {bd : DS} {u : DT} {gt : TG} {pos : Pos}
theorem for_imp (hg : TgOk X.K mu ow gt tgt) (D : Ends) (σ : L2.St) (H : Hp) (h : tS X.K mu rm (sFor src tgt bd) D σ H) : tFor (tI WalkS X.K mu src) gt (tS X.K mu rm bd) D σ H := by
  obtain ⟨g, O, G, B, oc, F, hb, e, q⟩ := h
  unfold sFor at e
  cases e1 : src G B with
  | none => rw [e1] at e; cases e
  | some p =>
    obtain ⟨ds, B1⟩ := p
    rw [e1, Option.bind_some] at e
    refine ⟨g, O, G, B, ds, B1, F, hb, e1, fun J H1 x1 b1 wk => ?_⟩
    have F1 := F.step0 hb x1 b1
    have s1 : Sub O O H H1 := Ext.sub F hb b1 x1
    refine ⟨fun i m σ H => m = ds.length - i ∧ i ≤ ds.length ∧ ∃ (Oi : Addr → Prop) (Gi : Gam) (Bi : Bag), Fr X.K g Oi mu Gi σ H ∧ BagAt g.b g.l H Bi ∧ Sub O Oi H1 H ∧ forGo tgt bd (ds.drop i) Gi Bi = some oc, ⟨ds.length, by simp, Nat.zero_le _, O, G, B1, F1, b1, Sub.refl, e⟩, ?_⟩
    rintro i m σi Hi ⟨rfl, hi, Oi, Gi, Bi, Fi, bi, si, ec⟩
    have yl := wk Oi Hi si bi.box Fi.ob
    by_cases hlt : i < ds.length
    · obtain ⟨dI, hdI⟩ : ∃ dI, ds[i]? = some dI := ⟨ds[i], List.getElem?_eq_getElem hlt⟩
      obtain ⟨go, yld⟩ := yl.1 i dI hdI
      have edrop : ds.drop i = dI :: ds.drop (i + 1) := by
        rw [List.drop_eq_getElem_cons hlt]; rw [List.getElem?_eq_getElem hlt] at hdI
        cases hdI; rfl
      rw [edrop] at ec
      unfold forGo at ec
      cases c1 : tgt Gi dI with
      | none => rw [c1] at ec; cases ec
      | some G1 =>
        rw [c1, Option.bind_some] at ec
        cases c2 : bd G1 Bi with
        | none => rw [c2] at ec; cases ec
        | some o =>
          rw [c2, Option.bind_some] at ec
          refine .inr ⟨go, fun σ H => ∃ (Oj : Addr → Prop) (Gj : Gam) (Bj : Bag), Fr X.K g Oj mu Gj σ H ∧ BagAt g.b g.l H Bj ∧ Sub O Oj H1 H ∧ forGo tgt bd (ds.drop (i + 1)) Gj Bj = some oc, fun σ' H' h => ⟨ds.length - (i + 1), by omega, rfl, hlt, h⟩, fun x H' y => ?_⟩
          obtain ⟨gr, ox⟩ := yld x H' y
          have b' : BagAt g.b g.l H' Bi := bi.grow gr
          have x' : Ext g.b Hi H' := fun a o _ h => gr a o h
          have F' := Fi.step0 bi x' b'
          have s' : Sub O Oi H1 H' := si.trans (Ext.sub Fi bi b' x')
          refine hg g Oi Gi G1 σi H' x dI _ F' ox c1 fun σ2 F2 _ => ⟨g, Oi, G1, Bi, o, F2, b', c2, ?_⟩
          cases o with
          | nx G2 B2 => exact fun σ' H2 O2 F3 b3 s3 => ⟨O2, G2, B2, F3, b3, s'.trans s3, ec⟩
          | ct G2 B2 => exact fun σ' H2 O2 F3 b3 s3 => ⟨O2, G2, B2, F3, b3, s'.trans s3, ec⟩
          | bk G2 B2 => cases ec; exact fun σ' H2 O2 F3 b3 s3 => q σ' H2 O2 F3 b3 (s1.trans (s'.trans s3))
          | rt d B2 => cases ec; exact q
    · have ei : i = ds.length := by omega
      subst ei
      rw [List.drop_length] at ec
      unfold forGo at ec
      cases ec
      exact .inl ⟨yl.2, q σi Hi Oi Fi bi (s1.trans si)⟩
theorem es_for (hp : PassesOwn (model X.prog X.w) X.A X.env X.xe) (hc : X.calm = true) (hi : EIS X mu tg iter src) (hg : PG X tg gt) (hgt : TgOk X.K mu ow gt tgt) (hb : ESs X mu rm body bd) (hs : ∀ x, foldedSetIterable iter X.env x = pure x := by intro _; rfl) :
    ES X mu rm (.For tg iter body [] pos) (sFor src tgt bd) := ps_imp (ps_for hp hc hi hg hb hs) (for_imp hgt)
theorem while_imp {n : Nat} (D : Ends) (σ : L2.St) (H : Hp) (h : tS X.K mu rm (whileGo u bd n) D σ H) : tWhile (tTs X.K mu u) (tS X.K mu rm bd) D σ H := by
  obtain ⟨g, O, G, B, oc, F, hb, e, q⟩ := h
  refine ⟨fun m σ H' => ∃ (Oi : Addr → Prop) (Gi : Gam) (Bi : Bag), Fr X.K g Oi mu Gi σ H' ∧ BagAt g.b g.l H' Bi ∧ Sub O Oi H H' ∧ whileGo u bd m Gi Bi = some oc, ⟨n, O, G, B, F, hb, Sub.refl, e⟩, ?_⟩
  rintro m σi Hi ⟨Oi, Gi, Bi, Fi, bi, si, ec⟩
  cases m with
  | zero => cases ec
  | succ m =>
    unfold whileGo at ec
    cases c1 : u Gi Bi with
    | none => rw [c1] at ec; cases ec
    | some p =>
      obtain ⟨k, Bk⟩ := p
      simp only [c1, Option.bind_some] at ec
      refine ⟨g, Oi, Gi, Bi, k, Bk, Fi, bi, c1, fun H1 x1 b1 => ?_⟩
      have F1 := Fi.step0 bi x1 b1
      have s1 : Sub O Oi H H1 := si.trans (Ext.sub Fi bi b1 x1)
      cases k with
      | false =>
        rw [if_neg Bool.false_ne_true] at ec
        cases ec
        exact iteF (q σi H1 Oi F1 b1 s1)
      | true =>
        rw [if_pos rfl] at ec
        cases c2 : bd Gi Bk with
        | none => rw [c2] at ec; cases ec
        | some o =>
          rw [c2, Option.bind_some] at ec
          refine iteT ⟨fun σ H' => ∃ (Oj : Addr → Prop) (Gj : Gam) (Bj : Bag), Fr X.K g Oj mu Gj σ H' ∧ BagAt g.b g.l H' Bj ∧ Sub O Oj H H' ∧ whileGo u bd m Gj Bj = some oc, fun σ' H' h => ⟨m, Nat.lt_succ_self m, h⟩, g, Oi, Gi, Bk, o, F1, b1, c2, ?_⟩
          cases o with
          | nx G2 B2 => exact fun σ' H2 O2 F3 b3 s3 => ⟨O2, G2, B2, F3, b3, s1.trans s3, ec⟩
          | ct G2 B2 => exact fun σ' H2 O2 F3 b3 s3 => ⟨O2, G2, B2, F3, b3, s1.trans s3, ec⟩
          | bk G2 B2 => cases ec; exact fun σ' H2 O2 F3 b3 s3 => q σ' H2 O2 F3 b3 (s1.trans s3)
          | rt d B2 => cases ec; exact q
theorem es_while {n : Nat} (hp : PassesOwn (model X.prog X.w) X.A X.env X.xe) (hc : ET X mu c u) (hb : ESs X mu rm body bd) : ES X mu rm (.While c body [] pos) (whileGo u bd n) := ps_imp (ps_while hp hc hb) while_imp
end
end Xa
/-! XB7: defs whose callers show nothing just now; what a def is worth over data. -/
namespace Xa
open PySem PySem.Spec
open PyProof.Rows L2
/-- as FnOk, where nothing is being shown -/
structure FnG (P : Program) (w : World) (K : PySem.W.Frag) (mg : Str → Option Value) (base : Heap) (k : Nat) (f : Addr) (fd : FuncData) (ps : List Str) (sp : List V → Hp → VK → Prop) : Prop where
  len : ∀ vs H Q, sp vs H Q → vs.length = ps.length
  run : ∀ (A : Around) (outer : List Env) (s : Shared) (H : Hp) (args : Args) (us : List Value) (vs : List V) (Q : VK), Room k A → A.guards = some [] → Env0 P w K mg base A outer s H → BindsTo s fd args (ps.zip us) → Vals vs us → sp vs H Q →
    codeAny (model P w) A (.call (.ref f) args) (CR CX0 outer P w H s Q E0) s
section
variable {P : Program}
variable {w : World}
variable {K : PySem.W.Frag}
variable {mg : Str → Option Value}
variable {base : Heap}
theorem FnG.mono {j k : Nat} {f : Addr} {fd : FuncData} {ps : List Str} {sp : List V → Hp → VK → Prop} (F : FnG P w K mg base j f fd ps sp) (h : j ≤ k) : FnG P w K mg base k f fd ps sp :=
  ⟨F.len, fun A o s H ar us vs Q hr => F.run A o s H ar us vs Q (hr.mono h)⟩
theorem FnG.imp {k : Nat} {f : Addr} {fd : FuncData} {ps : List Str} {sp sp' : List V → Hp → VK → Prop} (F : FnG P w K mg base k f fd ps sp) (h : ∀ vs H Q, sp' vs H Q → sp vs H Q) : FnG P w K mg base k f fd ps sp' :=
  ⟨fun vs H Q q => F.len vs H Q (h _ _ _ q), fun A o s H ar us vs Q hr hG he hb hv q => F.run A o s H ar us vs Q hr hG he hb hv (h _ _ _ q)⟩
/-- a def by its body -/
theorem fng_of {x qual : Str} {st : Stmt} {f : Addr} {fd : FuncData} {N ps : List Str} {k : Nat} {sp : List V → Hp → VK → Prop} (F : Fun K x qual st f fd) (S : FnScope N ps (defScope st)) (len : ∀ vs H Q, sp vs H Q → vs.length = ps.length)
    (hbody : ∀ (cdv : Value) (A : Around) (outer : List Env) (s : Shared) (H : Hp) (vs : List V) (Q : VK), Room k (A.deeper (envOfC qual (defScope st) s.heap.objs.size f cdv)) → A.guards = some [] → sp vs H Q →
      ∃ t, PSs (cxOf CX0 P w K mg base N qual (defScope st) f cdv A outer s H E0).nox (defBody st) t ∧ t { nx := fun _ H' => Q .non H', rt := Q } (start N vs) H) : FnG P w K mg base (k + 1) f fd ps sp := by
  obtain ⟨oc, od, kV, doc, pm, an, cdv, ct, osl, rfl, lk, hcd⟩ := F.ex; refine ⟨len, fun A outer s H ar us vs Q room hG en bi hv hsp => ?_⟩
  have nvs := len _ _ _ hsp
  have inK : K.In s.heap := en.mod.kin.keeps fun c o z => (en.bs c o z).1
  have free : s.heap.NoLimit := en.mod.nolimit.keeps fun c o z => (en.bs c o z).1
  have kinds : ∀ y ∈ ps.zip us, (defScope st).names.lookup y.1 = some .local ∨ ((defScope st).names.lookup y.1 = some .cell ∧ ((cellsFrom (s.heap.objs.size + 1) (defScope st).names []).lookup y.1).isSome = true) := by
    rintro ⟨n, z⟩ hm
    rcases S.par n (List.of_mem_zip hm).1 with q | q
    · exact .inl q
    · refine .inr ⟨q, ?_⟩
      exact PySem.W.cellsFrom_some _ _ _ (.inl q)
  refine codeAny_call_function room.depth (inK _ _ lk) rfl S.co S.gen rfl (PySem.W.codeRec_of inK hcd) (bi _ _ _ _ ?_)
  refine wpAny_newFunctionEnv_cells S.kind kinds fun en1 e1 s1 z => ?_
  subst e1
  refine ⟨free.keeps z.toInCall.keep, codeAny_func ?_⟩
  obtain ⟨t, ht, hq⟩ := hbody cdv A outer s H vs Q (room.deeper _) hG hsp
  have J : Inv (cxOf CX0 P w K mg base N qual (defScope st) f cdv A outer s H E0) [] (start N vs) H s1 := inv_start S room.hd en nvs hv z
  refine wpAny_mono (ht.nox.run [] s1 (start N vs) H _ J hq) (fun fl s2 h2 => ?_) fun _ _ h2 => h2
  cases fl with
  | ret u =>
    obtain ⟨r, σ2, H2, J2, rr, q2⟩ := h2
    exact ⟨r, H2, J2.os, J2.bare, J2.base, J2.hok, rr, q2⟩
  | next =>
    obtain ⟨σ2, H2, J2, q2⟩ := h2
    exact ⟨V.non, H2, J2.os, J2.bare, J2.base, J2.hok, rfl, q2⟩
  | brk => obtain ⟨_, _, _, q2⟩ := h2; exact q2.elim
  | cont => obtain ⟨_, _, _, q2⟩ := h2; exact q2.elim
end
section
variable {X : Cx} {k : Nat} {f : Addr} {fd : FuncData} {ps : List Str} {sp : List V → Hp → VK → Prop} {x : Str} {p pos : Pos} {e : Expr} {es : List Expr} {t : TA}
def tCallG (sp : List V → Hp → VK → Prop) (t : TA) : TE := fun σ H Q => t σ H fun vs H1 => sp vs H1 Q
theorem run_fng {pins : List (Addr × Obj)} {σ : L2.St} {H : Hp} {s : Shared} {Q : VK} {us : List Value} {vs : List V} (F : FnG X.prog X.w X.K X.mg X.base k f fd ps sp) (hr : Room k X.A) (hG : X.A.guards = some []) (hb : Binds X.K fd ps []) (I : Inv X pins σ H s) (r : Vals vs us) (h : sp vs H Q) : wpAny (model X.prog X.w) X.A (call (.ref f) us) (EP X pins σ Q) X.xe s := by
  have hl : (us ++ []).length = ps.length := by rw [List.append_nil, ← r.length]; exact F.len _ _ _ h
  have hb' := hb s us I.kIn hl
  rw [List.append_nil] at hb'
  refine wpAny_call (codeAny_mono (F.run X.A X.stack s H ⟨us, []⟩ us vs Q hr hG I.env0 hb' r h) fun z s2 h2 => ?_)
  cases z with
  | error _ => exact h2.elim
  | ok fl =>
    cases fl with
    | ret u => exact I.after h2
    | next => exact h2.elim
    | brk => exact h2.elim
    | cont => exact h2.elim
theorem pe_callG (F : FnG X.prog X.w X.K X.mg X.base k f fd ps sp) (hr : Room k X.A) (hG : X.A.guards = some []) (hg : Gl X x) (hm : X.mg x = some (.ref f)) (hk : PySem.W.keepIn X.K (.ref f) = true) (hb : Binds X.K fd ps []) (ha : PA X (e :: es) t) (hdb : (x == ("__debug__" : Str)) = false := by decide)
    (he : starEach (e :: es) X.env = (false, eval e X.env) :: starEach es X.env := by rfl) (hpl : (backTo pos (starEach es X.env)).any (·.1) = false := by rfl) : PE X (.Call (.Name x p) (e :: es) [] pos) (tCallG sp t) := by
  constructor
  intro pins s σ H Q J h
  refine wpAny_Call_Name_kw (ld_glob J hg hm ?_ hdb)
  refine PySem.W.callWith_K (h₀ := X.base) J.ok.mod.kin hk (thn (ha.run pos pins s σ H _ J h) fun us s1 ⟨vs, H1, J1, r, q⟩ => ⟨J1.kIn, ?_⟩) he hpl
  exact run_fng F hr hG hb J1 r q
end
/-! ### over data -/
/-- what a def is worth -/
abbrev FD := List D → Bag → Option (D × Bag)
def spD (K : PySem.W.Frag) (ms : List Md) (m : Md) (F : FD) : List V → Hp → VK → Prop := fun vs H Q => ∃ (b l : Addr) (O : Addr → Prop) (B : Bag) (ds : List D) (d : D) (B' : Bag), O b ∧ O l ∧ l ≠ b ∧ (∀ a, O a → H a ≠ none) ∧ BagAt b l H B ∧ RwL K b O H (ms.map Rm.val) vs ds [] ∧ F ds B = some (d, B') ∧
  ∀ v H' A, Got K b l O H H' B' (.val m) v d A → Q v H'
theorem RwL.lens {K : PySem.W.Frag} {b : Addr} {O : Addr → Prop} {H : Hp} : ∀ {rms : List Rm} {vs : List V} {ds : List D} {A : List Addr}, RwL K b O H rms vs ds A → vs.length = rms.length ∧ ds.length = rms.length := by
  intro rms vs ds A h
  induction h with
  | nil => exact ⟨rfl, rfl⟩
  | cons _ _ ih => exact ⟨by simp [ih.1], by simp [ih.2]⟩
def startG (n : Nat) (ds : List D) : Gam := ds.map some ++ List.replicate (n - ds.length) none
def runD (n : Nat) (body : DS) : FD := fun ds B => match body (startG n ds) B with
  | some (.rt d B') => some (d, B')
  | some (.nx _ B') => some (.non, B')
  | _ => none
theorem RwL.get {K : PySem.W.Frag} {b : Addr} {O : Addr → Prop} {H : Hp} : ∀ {ms : List Md} {vs : List V} {ds : List D} {A : List Addr} {i : Nat} {d : D}, RwL K b O H (ms.map Rm.val) vs ds A → A = [] → ds[i]? = some d → ∃ m v, ms[i]? = some m ∧ vs[i]? = some v ∧ Ow K b O H m v d []
  | [], vs, ds, A, i, d, h, _, e => by cases h; simp at e
  | m :: ms, vs, ds, A, i, d, h, hA, e => by
    cases h with
    | cons h1 h2 =>
      obtain ⟨rfl, rfl⟩ := List.append_eq_nil_iff.mp hA
      cases i with
      | zero => simp at e; subst e; exact ⟨m, _, rfl, rfl, h1⟩
      | succ i => exact RwL.get (i := i) h2 rfl (by simpa using e)
theorem fr_start {K : PySem.W.Frag} {b l : Addr} {O : Addr → Prop} {H : Hp} {N : List Str} {ms : List Md} {mu : List Md} {vs : List V} {ds : List D} (ob : O b) (ol : O l) (lb : l ≠ b) (dm : ∀ a, O a → H a ≠ none) (h : RwL K b O H (ms.map Rm.val) vs ds []) (hmu : mu.take ms.length = ms) (hN : ms.length ≤ N.length) :
    Fr K ⟨b, l, H, O⟩ O mu (startG N.length ds) (start N vs) H := by
  obtain ⟨l1, l2⟩ := h.lens
  rw [List.length_map] at l1 l2
  refine ⟨⟨ob, ol, lb, dm⟩, fun _ z => z, dm, fun _ _ _ z => z, ?_, fun _ => [], fun _ => List.nodup_nil, fun _ _ _ a z => (nomatch z), fun _ a z => (nomatch z), fun i d e => ?_⟩
  · unfold startG L2.start
    simp only [List.length_append, List.length_map, List.length_replicate]
    omega
  · have hi : i < ds.length := by
      unfold startG at e
      by_cases hi : i < ds.length
      · exact hi
      · rw [List.getElem?_append_right (by simpa using hi), List.getElem?_replicate] at e
        split at e <;> cases e
    have e2 : ds[i]? = some d := by
      unfold startG at e
      rw [List.getElem?_append_left (by simpa using hi), List.getElem?_map] at e
      cases q : ds[i]? with
      | none =>
          rw [q] at e; cases e
      | some z => rw [q] at e; cases e; rfl
    obtain ⟨m, v, h1, h2, h3⟩ := h.get rfl e2
    refine ⟨m, v, ?_, ?_, h3⟩
    · rw [← hmu] at h1
      rw [List.getElem?_take] at h1
      split at h1
      · exact h1
      · cases h1
    · unfold L2.start
      rw [List.getElem?_append_left (by simpa [l1, ← l2] using hi), List.getElem?_map, h2]
      rfl
section
variable {P : Program}
variable {w : World}
variable {K : PySem.W.Frag}
variable {mg : Str → Option Value}
variable {base : Heap}
theorem fng_D {x qual : Str} {st : Stmt} {f : Addr} {fd : FuncData} {N ps : List Str} {k : Nat} {ms mu : List Md} {m : Md} {body : DS} (F : Fun K x qual st f fd) (S : FnScope N ps (defScope st)) (hl : ms.length = ps.length) (hmu : mu.take ms.length = ms) (hm : m ≠ .bag)
    (hb : ∀ (cdv : Value) (A : Around) (outer : List Env) (s : Shared) (H : Hp), Room k (A.deeper (envOfC qual (defScope st) s.heap.objs.size f cdv)) → A.guards = some [] → ESs (cxOf CX0 P w K mg base N qual (defScope st) f cdv A outer s H E0).nox mu (.val m) (defBody st) body) :
    FnG P w K mg base (k + 1) f fd ps (spD K ms m (runD N.length body)) := by
  have hpl : ps.length ≤ N.length := by have h0 := congrArg List.length S.pre; rw [List.length_take] at h0; omega
  refine fng_of F S (fun vs H Q ⟨b, l, O, B, ds, d, B', _, _, _, _, _, h, _⟩ => by rw [h.lens.1, List.length_map, hl]) fun cdv A outer s H vs Q hr hG ⟨b, l, O, B, ds, d, B', ob, ol, lb, dm, bag, h, e, q⟩ => ?_
  refine ⟨_, hb cdv A outer s H hr hG, ⟨b, l, H, O⟩, O, startG N.length ds, B, ?_⟩
  have F0 : Fr K ⟨b, l, H, O⟩ O mu (startG N.length ds) (start N vs) H := fr_start ob ol lb dm h hmu (by omega)
  unfold runD at e
  cases e1 : body (startG N.length ds) B with
  | none => rw [e1] at e; cases e
  | some oc =>
    rw [e1] at e
    refine ⟨oc, F0, bag, rfl, ?_⟩
    cases oc with
    | rt d0 B0 =>
      cases e
      exact fun v H' A' R => q v H' A' ⟨R.ext0, R.fresh, R.nd, R.bag, R.rw_⟩
    | nx G0 B0 =>
      cases e
      exact fun σ' H' O' F' b' _ => q .non H' [] ⟨F'.ext0, (fun a z => nomatch z), List.nodup_nil, b', Ow.non hm⟩
    | bk => cases e
    | ct => cases e
theorem fnD_imp {k : Nat} {f : Addr} {fd : FuncData} {ps : List Str} {ms : List Md} {m : Md} {F F' : FD} (h : FnG P w K mg base k f fd ps (spD K ms m F)) (z : ∀ ds B r, F' ds B = some r → F ds B = some r) : FnG P w K mg base k f fd ps (spD K ms m F') :=
  h.imp fun vs H Q ⟨b, l, O, B, ds, d, B', a1, a2, a3, a4, a5, a6, e, q⟩ => ⟨b, l, O, B, ds, d, B', a1, a2, a3, a4, a5, a6, z _ _ _ e, q⟩
/-- a def that is never called so -/
theorem fnD_none {x qual : Str} {st : Stmt} {f : Addr} {fd : FuncData} {N ps : List Str} {ms : List Md} {m : Md} (F : Fun K x qual st f fd) (S : FnScope N ps (defScope st)) : FnG P w K mg base 1 f fd ps (spD K ms m fun _ _ => none) :=
  fng_of F S (fun vs H Q ⟨b, l, O, B, ds, d, B', _, _, _, _, _, _, e, _⟩ => by cases e) fun cdv A outer s H vs Q hr hG ⟨b, l, O, B, ds, d, B', _, _, _, _, _, _, e, _⟩ => by cases e
end
section
variable {X : Cx} {mu : List Md} {k : Nat} {f : Addr} {fd : FuncData} {ps : List Str} {ms : List Md} {m : Md} {FF : FD} {x : Str} {p pos : Pos} {e : Expr} {es : List Expr} {fs : DA}
def dCall (FF : FD) (fs : DA) : DE := fun G B => (fs G B).bind fun p => FF p.1 p.2
theorem RwL.noA {K : PySem.W.Frag} {b : Addr} {O : Addr → Prop} {H : Hp} : ∀ {ms : List Md} {vs : List V} {ds : List D} {A : List Addr}, RwL K b O H (ms.map Rm.val) vs ds A → (∀ m ∈ ms, m = .imm ∨ m = .frz ∨ m = .bag) → A = []
  | [], vs, ds, A, h, _ => by cases h; rfl
  | m :: ms, vs, ds, A, h, hm => by
    cases h with
    | cons h1 h2 =>
      have e1 := Ow.noA.1 h1 (hm m List.mem_cons_self)
      have e2 := RwL.noA h2 fun x z => hm x (List.mem_cons_of_mem _ z)
      subst e1 e2; rfl
theorem ev_call (F : FnG X.prog X.w X.K X.mg X.base k f fd ps (spD X.K ms m FF)) (hms : ∀ m ∈ ms, m = .imm ∨ m = .frz ∨ m = .bag) (hr : Room k X.A) (hG : X.A.guards = some []) (hg : Gl X x) (hm : X.mg x = some (.ref f)) (hk : PySem.W.keepIn X.K (.ref f) = true) (hb : Binds X.K fd ps []) (ha : AV X mu (e :: es) (ms.map Rm.val) fs) (hdb : (x == ("__debug__" : Str)) = false := by decide)
    (he : starEach (e :: es) X.env = (false, eval e X.env) :: starEach es X.env := by rfl) (hpl : (backTo pos (starEach es X.env)).any (·.1) = false := by rfl) : EV X mu (.Call (.Name x p) (e :: es) [] pos) (.val m) (dCall FF fs) :=
  pe_imp (pe_callG F hr hG hg hm hk hb ha hdb he hpl) fun σ H Q ⟨g, O, G, B, d, B', Fr0, hb0, e1, q⟩ => by
    unfold dCall at e1
    cases e2 : fs G B with
    | none => rw [e2] at e1; cases e1
    | some p0 =>
      obtain ⟨ds, B1⟩ := p0
      rw [e2, Option.bind_some] at e1
      refine ⟨g, O, G, B, ds, B1, Fr0, hb0, e2, fun vs H1 A G1 => ?_⟩
      have hA := G1.rw_.noA hms
      subst hA
      have F1 := Fr0.step0 hb0 G1.ext G1.bag
      have r := G1.rw_
      rw [orN] at r
      exact ⟨g.b, g.l, O, B1, ds, d, B', F1.ob, F1.ol, F1.ok.lb, F1.dom, G1.bag, r, e1, fun v H' A' G2 => q v H' A' (G2.after hb0 G1.ext G1.bag)⟩
end
end Xa
/-! XB8: the bag read and written. -/
namespace Xa
open PySem PySem.Spec
open PyProof.Rows L2
section
variable {X : Cx} {mu : List Md} {rm : Rm} {i : Nat} {x : Str} {f : DE} {e : Expr} {pos p2 : Pos}
theorem Fr.bagSlot {K : PySem.W.Frag} {g : Bg} {O : Addr → Prop} {G : Gam} {σ : L2.St} {H : Hp} {d : D} (F : Fr K g O mu G σ H) (h : gat G i = some d) (hm : mu[i]? = some .bag) : σ[i]? = some (some (.ref g.b)) := by
  obtain ⟨As, nd, dj, ss, sl⟩ := F.slots
  obtain ⟨m, v, h1, h2, h3⟩ := sl i d (gat_some h)
  rw [hm] at h1; cases h1
  rw [h2]
  generalize As i = A at h3
  cases h3 <;> first | rfl | contradiction
/-- the bag is a law's own -/
def onLaw {α : Type} (B : Bag) (x : Option α) : Option α := match B.dd with
  | none => x
  | some _ => none
theorem onLaw_ok {α : Type} {B : Bag} {x : Option α} (h : B.dd = none) : onLaw B x = x := by unfold onLaw; rw [h]
theorem onLaw_inv {α : Type} {B : Bag} {x : Option α} {r : α} (h : onLaw B x = some r) : B.dd = none ∧ x = some r := by
  unfold onLaw at h
  cases e : B.dd with
  | none => rw [e] at h; exact ⟨rfl, h⟩
  | some d => rw [e] at h; cases h
def bagI (k : Nat) (B : Bag) : Int := match k with | 0 => B.c0 | 1 => B.c1 | _ => B.c2
theorem bag_ix {B : Bag} {l : Addr} (k : Nat) (hk : k < 3) : [V.int B.c0, .int B.c1, .int B.c2, .ref l][k]? = some (.int (bagI k B)) := by
  match k, hk with
  | 0, _ => rfl
  | 1, _ => rfl
  | 2, _ => rfl
theorem bag_ixN (k : Nat) (hk : k < 3) {a b c d : V} : ixN [a, b, c, d].length (k : Int) = some k := by
  unfold ixN
  rw [if_pos (by omega), if_pos (by simp; omega)]
  simp
/-- bag[0], bag[1], bag[2] -/
def dBagI (i k : Nat) : DE := fun G B => onLaw B ((gat G i).map fun _ => (.int (bagI k B), B))
theorem ev_bagI {k : Nat} {j : _} {p : Pos} (hk : k < 3) (hx : PE X (.Name x p2) (tVar i)) (hm : mu[i]? = some .bag) (hs : PlainIx (.Constant (.int (k : Int)) j p) := by intro _ _; rfl) : EV X mu (.Subscript (.Name x p2) (.Constant (.int (k : Int)) j p) pos) fz (dBagI i k) :=
  pe_imp (pe_ix ix_list hx pe_int hs) fun σ H Q ⟨g, O, G, B, d, B', F, hb, e, q⟩ => by
    unfold dBagI at e
    obtain ⟨lw, e⟩ := onLaw_inv e
    cases e1 : gat G i with
    | none => rw [e1] at e; cases e
    | some d0 =>
      rw [e1] at e; cases e
      have hl := hb.law lw
      refine ⟨_, F.bagSlot e1 hm, g.b, [.int B.c0, .int B.c1, .int B.c2, .ref g.l], (k : Int), .int (bagI k B), rfl, rfl, .inl (.inl hl), ?_, q _ H [] ⟨fun _ _ _ h => h, (fun a z => nomatch z), List.nodup_nil, hb, .int⟩⟩
      exact atI_nat (bag_ix k hk)
def dBagL (i : Nat) : DE := fun G B => onLaw B ((gat G i).map fun _ => (.lst (B.cells.map D.int), B))
theorem owl_ints {K : PySem.W.Frag} {b : Addr} {O : Addr → Prop} {H : Hp} : ∀ ns : List Int, OwL K b O H .frz (ns.map V.int) (ns.map D.int) []
  | [] => .nil
  | n :: r => OwL.consN (.int (by decide)) (owl_ints r)
theorem ev_bagL {j : _} {p : Pos} (hx : PE X (.Name x p2) (tVar i)) (hm : mu[i]? = some .bag) (hs : PlainIx (.Constant (.int 3) j p) := by intro _ _; rfl) : EV X mu (.Subscript (.Name x p2) (.Constant (.int 3) j p) pos) .vw (dBagL i) :=
  pe_imp (pe_ix ix_list hx pe_int hs) fun σ H Q ⟨g, O, G, B, d, B', F, hb, e, q⟩ => by
    unfold dBagL at e
    obtain ⟨lw, e⟩ := onLaw_inv e
    cases e1 : gat G i with
    | none => rw [e1] at e; cases e
    | some d0 =>
      rw [e1] at e; cases e
      have hl := hb.law lw
      refine ⟨_, F.bagSlot e1 hm, g.b, [.int B.c0, .int B.c1, .int B.c2, .ref g.l], 3, .ref g.l, rfl, rfl, .inl (.inl hl), atI_nat (j := 3) rfl, q _ H [] ⟨fun _ _ _ h => h, (fun a z => nomatch z), List.nodup_nil, hb, ?_⟩⟩
      exact ⟨rfl, .lst F.ok.lb hb.cells (owl_ints _)⟩
def bagPut (k : Nat) (B : Bag) (v : Int) : Bag := match k with | 0 => { B with c0 := v } | 1 => { B with c1 := v } | _ => { B with c2 := v }
theorem BagAt.put {b l : Addr} {H : Hp} {B : Bag} (h : BagAt b l H B) (lw : B.dd = none) (lb : l ≠ b) (k : Nat) (hk : k < 3) (v : Int) :
    BagAt b l (L2.upd H b (.lst ([V.int B.c0, .int B.c1, .int B.c2, .ref l].set k (.int v)))) (bagPut k B v) := by
  refine ⟨⟨_, upd_same, ?_⟩, ?_⟩
  · match k, hk with
    | 0, _ => exact .law (B := bagPut 0 B v) lw
    | 1, _ => exact .law (B := bagPut 1 B v) lw
    | 2, _ => exact .law (B := bagPut 2 B v) lw
  · rw [upd_ne lb]
    have : (bagPut k B v).cells = B.cells := by
      match k, hk with
      | 0, _ => rfl
      | 1, _ => rfl
      | 2, _ => rfl
    rw [this]; exact h.cells
theorem ext_b {b : Addr} {H : Hp} {o : HO} : Ext b H (L2.upd H b o) := fun a u n h => by rw [upd_ne n]; exact h
/-- bag[0] = e, bag[1] = e -/
def sBagPut (i k : Nat) (f : DE) : DS := fun G B => (gat G i).bind fun _ => (f G B).bind fun p => match p.1 with
  | .int v => onLaw p.2 (some (.nx G (bagPut k p.2 v)))
  | _ => none
theorem es_bagPut {k : Nat} {j : _} {p ps : Pos} (hk : k < 3) (hx : PE X (.Name x p2) (tVar i)) (hm : mu[i]? = some .bag) (he : EV X mu e fz f)
    (ha : ∀ v, assign (.Subscript (.Name x p2) (.Constant (.int (k : Int)) j p) ps) X.env v = (do
      let ov ← holding [v] (eval (.Name x p2) X.env)
      let iv ← holding [v, ov] (eval (.Constant (.int (k : Int)) j p) X.env)
      standAt ps; holding [v, ov, iv] (setItem ov iv v)
      release [v, ov, iv] []) := by intro _; rfl)
    (hs : swapsWithSole [.Subscript (.Name x p2) (.Constant (.int (k : Int)) j p) ps] e pos.line X.env = pure false := by rfl) (hw : swappedStores [.Subscript (.Name x p2) (.Constant (.int (k : Int)) j p) ps] e X.env = pure none := by rfl)
    (h1 : (assignEach [.Subscript (.Name x p2) (.Constant (.int (k : Int)) j p) ps] X.env).map (·.2) = [assign (.Subscript (.Name x p2) (.Constant (.int (k : Int)) j p) ps) X.env] := by rfl) :
    ES X mu rm (.Assign [.Subscript (.Name x p2) (.Constant (.int (k : Int)) j p) ps] e pos) (sBagPut i k f) := ps_imp (ps_asg he (pg_sub hx pe_int set_list ha) hs hw h1) fun D σ H ⟨g, O, G, B, oc, F, hb, e, q⟩ => by
  unfold sBagPut at e
  cases e0 : gat G i with
  | none => rw [e0] at e; cases e
  | some d0 =>
    rw [e0, Option.bind_some] at e
    cases e1 : f G B with
    | none => rw [e1] at e; cases e
    | some p0 =>
      obtain ⟨d, B1⟩ := p0
      rw [e1, Option.bind_some] at e
      cases d with
      | int v =>
        obtain ⟨lw, e⟩ := onLaw_inv e
        cases e
        refine ⟨g, O, G, B, _, _, F, hb, e1, fun y H1 A G1 => ?_⟩
        have ey : y = .int v := by have h := G1.rw_; cases h; rfl
        subst ey
        have F1 := F.step0 hb G1.ext G1.bag
        have hl := G1.bag.law lw
        refine ⟨_, F.bagSlot e0 hm, g.b, [.int B1.c0, .int B1.c1, .int B1.c2, .ref g.l], (k : Int), k, rfl, rfl, hl, ?_, ?_⟩
        · exact bag_ixN k hk
        · have b2 := G1.bag.put lw F.ok.lb k hk v
          have x2 : Ext g.b H (L2.upd H1 g.b (.lst ([V.int B1.c0, .int B1.c1, .int B1.c2, .ref g.l].set k (.int v)))) := fun a o n h => ext_b a o n (G1.ext a o n h)
          exact q σ _ O (F.step0 hb x2 b2) b2 (Ext.sub F hb b2 x2)
      | _ => cases e
/-- l[i] read, by values -/
theorem get_list : PGet X (fun o i H Q => ∃ (p : Addr) (xs : List V) (n : Nat) (v : V), o = .ref p ∧ i = .int (n : Int) ∧ n < 1000 ∧ SqL X.K H p xs ∧ xs[n]? = some v ∧ Q v H) := by
  rintro pins s σ H o i ov iv Q J ro ri ⟨p, xs, n, v, rfl, rfl, hn, hq, hv, q⟩
  cases ro
  obtain ⟨t, rfl⟩ := ri
  obtain ⟨its, r, pl, hz⟩ := J.list hq
  obtain ⟨w, ew, rw'⟩ := r.get hv
  exact wpAny_getItem_list pl.isList (by omega) (by omega) (x := w) (by simpa using ew) ⟨v, H, J, rw', q⟩
/-- bag[2] += 1 -/
def sBagInc (i k : Nat) (f : DE) : DS := fun G B => onLaw B ((gat G i).bind fun _ => (f G B).bind fun p => match p.1 with
  | .int v => onLaw p.2 (some (.nx G (bagPut k p.2 (bagI k B + v))))
  | _ => none)
theorem es_bagInc {k : Nat} {j : _} {p ps : Pos} (hk : k < 3) (hx : PE X (.Name x p2) (tVar i)) (hm : mu[i]? = some .bag) (he : EV X mu e fz f)
    (ha : ∀ ov iv new, augStore (.Constant (.int (k : Int)) j p) ov iv new = (do holding [new, ov, iv] (setItem ov iv new); release [new, ov, iv] []; pure .next) := by intros; rfl) :
    ES X mu rm (.AugAssign (.Subscript (.Name x p2) (.Constant (.int (k : Int)) j p) ps) .Add e pos) (sBagInc i k f) := ps_imp (ps_augS hx pe_int get_list he ip_add set_list ha) fun D σ H ⟨g, O, G, B, oc, F, hb, e, q⟩ => by
  unfold sBagInc at e
  obtain ⟨lw, e⟩ := onLaw_inv e
  cases e0 : gat G i with
  | none => rw [e0] at e; cases e
  | some d0 =>
    rw [e0, Option.bind_some] at e
    cases e1 : f G B with
    | none => rw [e1] at e; cases e
    | some p0 =>
      obtain ⟨d, B1⟩ := p0
      rw [e1, Option.bind_some] at e
      cases d with
      | int v =>
        obtain ⟨lw2, e⟩ := onLaw_inv e
        cases e
        have hl := hb.law lw
        have hS : SqL X.K H g.b [.int B.c0, .int B.c1, .int B.c2, .ref g.l] := .inl (.inl hl)
        unfold tAugS tVar tC
        refine ⟨.ref g.b, F.bagSlot e0 hm, ?_⟩
        refine ⟨g.b, _, k, _, rfl, rfl, Nat.lt_trans hk (by decide), hS, bag_ix k hk, ?_⟩
        · refine ⟨g, O, G, B, .int v, B1, F, hb, e1, fun y H1 A G1 => ?_⟩
          have ey : y = .int v := by have h := G1.rw_; cases h; rfl
          subst ey
          have hl1 := G1.bag.law lw2
          unfold ipI rSetL
          refine ⟨_, _, rfl, rfl, ?_⟩
          refine ⟨g.b, [.int B1.c0, .int B1.c1, .int B1.c2, .ref g.l], (k : Int), k, rfl, rfl, hl1, ?_, ?_⟩
          · exact bag_ixN k hk
          · have b2 := G1.bag.put lw2 F.ok.lb k hk (bagI k B + v)
            have x2 : Ext g.b H (L2.upd H1 g.b (.lst ([V.int B1.c0, .int B1.c1, .int B1.c2, .ref g.l].set k (.int (bagI k B + v))))) := fun a o n h => ext_b a o n (G1.ext a o n h)
            exact q σ _ O (F.step0 hb x2 b2) b2 (Ext.sub F hb b2 x2)
      | _ => cases e
end
end Xa
/-! XB9: own dicts changed; lists within own dicts. -/
namespace Xa
open PySem PySem.Spec
open PyProof.Rows L2
def dicPut (kvs : List (D × D)) (x d : D) : List (D × D) := if kvs.any (fun p => keq p.1 x) = true then kvs.map (fun p => if keq p.1 x = true then (p.1, d) else p) else kvs ++ [(x, d)]
/-- the first place of a key -/
def dicSet1 : List (D × D) → D → D → List (D × D)
  | [], _, _ => []
  | p :: r, x, d => if keq p.1 x = true then (p.1, d) :: r else p :: dicSet1 r x d
/-- the heap behind a[y] = v, an empty dict being of either kind -/
def DPutE (H : Hp) (a : Addr) (y v : V) (H' : Hp) : Prop :=
  DPut H a y v H' ∨ (H a = some (.dK []) ∧ ∃ b k, y = .ref b ∧ H b = some (.tup (List.map kV k)) ∧ H' = upd H a (.dT [(k, v)])) ∨ (H a = some (.dT []) ∧ ∃ k, y = kV k ∧ H' = upd H a (.dK [(k, v)]))
theorem DPutE.set {X : Cx} {pins : List (Addr × Obj)} {σ : L2.St} {s : Shared} {H H' : Hp} {a : Addr} {y v : V} {u r : Value} {A : Around} {E : Value → Shared → Prop} {Q : Unit → Shared → Prop} (hu : A.units + 1 < cLine) (I : Inv X pins σ H s) (g : DPutE H a y v H') (ry : RelV y u) (rv : RelV v r) (h : ∀ s', Inv X pins σ H' s' → Q () s') : wpAny (model X.prog X.w) A (setItem (.ref a) u r) Q E s := by
  rcases g with g | ⟨e, p, k, rfl, e2, rfl⟩ | ⟨e, k, rfl, rfl⟩
  · exact d_setItem hu I g ry rv h
  · have I2 := empty_kt I e
    refine d_setItem hu I2 (.inr ⟨[], k, p, upd_same, rfl, ?_, by rw [sizeLine_eq]; decide, rfl⟩) ry rv fun s' I' => h s' ?_
    · rw [upd_ne (fun z => by rw [z, e] at e2; cases e2)]; exact e2
    · rw [upd_upd] at I'; exact I'
  · have I2 := empty_tk I e
    refine d_setItem hu I2 (.inl ⟨[], k, upd_same, rfl, by rw [sizeLine_eq]; decide, rfl⟩) ry rv fun s' I' => h s' ?_
    rw [upd_upd] at I'; exact I'
def sDPutE (td ty tv : TE) : TS := fun D σ H => tv σ H fun v H1 => td σ H1 fun x H2 => ty σ H2 fun y H3 => ∃ a H4, x = .ref a ∧ DPutE H3 a y v H4 ∧ D.nx σ H4
theorem ps_dputE {X : Cx} {o i value : Expr} {pos pos' : Pos} {td ty tv : TE} (hu : X.A.units + 1 < cLine) (ho : PE X o td) (hi : PE X i ty) (hv : PE X value tv) (hs : swapsWith value (some (.Subscript o i pos')) pos.line X.env = pure false) :
    PS X (.Assign [.Subscript o i pos'] value pos) (sDPutE td ty tv) := by
  refine ⟨fun pins s σ H D I h => ?_⟩; refine wpAny_Assign_Subscript (thn (hv.run pins s σ H _ I h) fun w1 t1 ⟨v, H1, I1, rv, q1⟩ => thn (ho.run pins t1 σ H1 _ I1 q1) fun w2 t2 ⟨x, H2, I2, rx, q2⟩ => thn (hi.run pins t2 σ H2 _ I2 q2) fun w3 t3 ⟨y, H3, I3, ry, a, H4, ex, g, q3⟩ => ?_) hs
  subst ex
  obtain rfl : w2 = Value.ref a := rx
  exact g.set hu I3 ry rv fun s4 I4 => ⟨σ, H4, I4, q3⟩
section
variable {K : PySem.W.Frag} {b l : Addr} {O O1 O2 : Addr → Prop} {H H1 H2 : Hp} {g : Bg} {mu : List Md} {G : Gam} {σ : L2.St} {B B' : Bag} {rm : Rm} {As : Nat → List Addr} {i : Nat} {a : Addr}
theorem zip_map_snd {κ : Type} {kk : κ → D} : ∀ (es : List (κ × V)) (ds : List D), (es.map (·.2)).length = ds.length → ((es.map fun p => kk p.1).zip ds).map (·.2) = ds
  | [], ds, h => by cases ds <;> simp_all
  | e :: r, [], h => by simp at h
  | e :: r, d :: ds, h => by simpa using zip_map_snd (kk := kk) r ds (by simpa using h)
theorem putK_zip {κ : Type} [DecidableEq κ] {kk : κ → D} (inj : ∀ k k', keq (kk k) (kk k') = decide (k = k')) (k : κ) {w : V} {d : D} (hw : Ow K b O H .frz w d []) {es : List (κ × V)} {ds : List D} (h : OwL K b O H .frz (es.map (·.2)) ds []) :
    ∃ ds', OwL K b O H .frz ((putK es k w).map (·.2)) ds' [] ∧ ((putK es k w).map fun p => kk p.1).zip ds' = dicPut ((es.map fun p => kk p.1).zip ds) (kk k) d := by
  have any_eq : ∀ (es : List (κ × V)) (ds : List D), (es.map (·.2)).length = ds.length → ((es.map fun p => kk p.1).zip ds).any (fun p => keq p.1 (kk k)) = es.any fun p => decide (p.1 = k) := by
    intro es
    induction es with
    | nil => intro ds _; rfl
    | cons e r ih =>
      intro ds hl
      cases ds with
      | nil => simp at hl
      | cons d0 ds =>
        have := ih ds (by simpa using hl)
        simp only [List.map_cons, List.zip_cons_cons, List.any_cons, inj]
        rw [this]
  have rep : ∀ (es : List (κ × V)) (ds : List D), OwL K b O H .frz (es.map (·.2)) ds [] → ∃ ds', OwL K b O H .frz ((es.map fun kv => if kv.1 = k then (kv.1, w) else kv).map (·.2)) ds' [] ∧
      ((es.map fun kv => if kv.1 = k then (kv.1, w) else kv).map fun p => kk p.1).zip ds' = ((es.map fun p => kk p.1).zip ds).map fun p => if keq p.1 (kk k) = true then (p.1, d) else p := by
    intro es
    induction es with
    | nil => intro ds h; cases h; exact ⟨[], .nil, rfl⟩
    | cons e r ih =>
      intro ds h
      obtain ⟨d0, ds0, A1, A2, rfl, hA, p, q⟩ := OwL.cons_inv h
      have h1 := Ow.noA.1 p (.inr (.inl rfl))
      have h2 := Ow.noA.2 q (.inr (.inl rfl))
      subst h1 h2
      obtain ⟨ds', q1, q2⟩ := ih ds0 q
      by_cases ek : e.1 = k
      · refine ⟨d :: ds', ?_, ?_⟩
        · rw [List.map_cons, List.map_cons, if_pos ek]; exact OwL.consN hw q1
        · simp only [List.map_cons, List.zip_cons_cons, if_pos ek, inj, ek, decide_true, if_true]
          rw [q2]
      · refine ⟨d0 :: ds', ?_, ?_⟩
        · rw [List.map_cons, List.map_cons, if_neg ek]; exact OwL.consN p q1
        · simp only [List.map_cons, List.zip_cons_cons, if_neg ek, inj, ek, decide_false, Bool.false_eq_true, if_false]
          rw [q2]
  have hl := h.len
  by_cases ha : (es.any fun p => decide (p.1 = k)) = true
  · obtain ⟨ds', q1, q2⟩ := rep es ds h
    refine ⟨ds', ?_, ?_⟩
    · unfold putK; rw [if_pos ha]; exact q1
    · unfold putK dicPut; rw [if_pos ha, any_eq es ds hl, if_pos ha]; exact q2
  · refine ⟨ds ++ [d], ?_, ?_⟩
    · unfold putK; rw [if_neg ha, List.map_append]; exact h.appN (OwL.consN hw .nil)
    · unfold putK dicPut
      rw [if_neg ha, any_eq es ds hl, if_neg ha, List.map_append]
      rw [List.zip_append (by simpa using hl)]
      rfl
end
/-- d[k] = v in an own dict: over data -/
def sDicPut (i : Nat) (fk fv : DE) : DS := fun G B => (fv G B).bind fun p => (fk G p.2).bind fun q => (gat G i).bind fun d => match d with
  | .dic kvs => if okK kvs q.1 = true ∧ kvs.length < sizeLine then some (.nx (G.set i (some (.dic (dicPut kvs q.1 p.1)))) q.2) else none
  | _ => none
theorem zip_len {κ : Type} {kk : κ → D} {es : List (κ × V)} {ds : List D} (h : (es.map (·.2)).length = ds.length) : ((es.map fun p => kk p.1).zip ds).length = es.length := by
  rw [List.length_zip, List.length_map, ← h, List.length_map, Nat.min_self]
theorem dic_put {K : PySem.W.Frag} {b : Addr} {O : Addr → Prop} {H : Hp} {a : Addr} {kvs : List (D × D)} {x v : V} {dx d : D} (h : Ow K b O H (.own .frz) (.ref a) (.dic kvs) [a]) (hx : Ow K b O H .frz x dx []) (hv : Ow K b O H .frz v d []) (ok : okK kvs dx = true) (hz : kvs.length < sizeLine) :
    ∃ o, DPutE H a x v (upd H a o) ∧ ∀ H', Off O a H H' → H' a = some o → Ow K b O H' (.own .frz) (.ref a) (.dic (dicPut kvs dx d)) [a] := by
  unfold okK at ok
  obtain ⟨ik, hd⟩ := Bool.and_eq_true_iff.mp ok
  unfold isKey at ik
  generalize eD : D.dic kvs = dd at h
  generalize eA : [a] = AA at h
  cases h with
  | @dkO _ _ es ds A p oa ha t =>
    cases eD; cases eA
    rw [zip_len t.len] at hz
    cases ek0 : kOf dx with
    | some k =>
      obtain rfl := kOf_inv ek0
      obtain ⟨ds', q1, q2⟩ := putK_zip keq_kD k hv t
      exact ⟨.dK (putK es k v), .inl (.inl ⟨es, k, ha, hx.key, hz, rfl⟩), fun H' off e => by
        rw [← q2]
        exact .dkO p oa e ((Ow.off off fun _ _ => Iff.rfl).2 q1 fun z => nomatch z)⟩
    | none =>
      rw [ek0] at ik
      cases et : tOf dx with
      | none => rw [et] at ik; cases ik
      | some ks =>
        obtain rfl := tOf_inv et
        obtain ⟨b', e1, e2⟩ := hx.tkey
        cases es with
        | nil =>
          cases t
          refine ⟨.dT [(ks, v)], .inr (.inl ⟨ha, b', ks, e1, e2, rfl⟩), fun H' off e => ?_⟩
          have r : Ow K b O H' (.own .frz) (.ref a) (.dic ((([(ks, v)] : List (List Key × V)).map fun p => kT p.1).zip [d])) (a :: []) := .dtO p oa e (OwL.consN ((Ow.off off fun _ _ => Iff.rfl).1 hv fun z => nomatch z) .nil)
          exact r
        | cons p' r' =>
          obtain ⟨d, ds', A1, A2, rfl, eA, h1, h2⟩ := OwL.cons_inv t
          have hd' : ((kOf (kD p'.1)).isSome == (kOf (kT ks)).isSome) = true := hd
          rw [kOf_kD] at hd'
          cases hd'
  | @dtO _ _ es ds A p oa ha t =>
    cases eD; cases eA
    rw [zip_len t.len] at hz
    cases et : tOf dx with
    | some ks =>
      obtain rfl := tOf_inv et
      obtain ⟨b', e1, e2⟩ := hx.tkey
      obtain ⟨ds', q1, q2⟩ := putK_zip keq_kT ks hv t
      exact ⟨.dT (putK es ks v), .inl (.inr ⟨es, ks, b', ha, e1, e2, hz, rfl⟩), fun H' off e => by
        rw [← q2]
        exact .dtO p oa e ((Ow.off off fun _ _ => Iff.rfl).2 q1 fun z => nomatch z)⟩
    | none =>
      rw [et] at ik
      cases ek0 : kOf dx with
      | none => rw [ek0] at ik; cases ik
      | some k =>
        obtain rfl := kOf_inv ek0
        cases es with
        | nil =>
          cases t
          refine ⟨.dK [(k, v)], .inr (.inr ⟨ha, k, hx.key, rfl⟩), fun H' off e => ?_⟩
          have r : Ow K b O H' (.own .frz) (.ref a) (.dic ((([(k, v)] : List (Key × V)).map fun p => kD p.1).zip [d])) (a :: []) := .dkO p oa e (OwL.consN ((Ow.off off fun _ _ => Iff.rfl).1 hv fun z => nomatch z) .nil)
          exact r
        | cons p' r' =>
          obtain ⟨d, ds', A1, A2, rfl, eA, h1, h2⟩ := OwL.cons_inv t
          have hd' : ((kOf (kT p'.1)).isSome == (kOf (kD k)).isSome) = true := hd
          rw [kOf_kD] at hd'
          cases hd'
  | _ => cases eD
theorem Ext.subO {K : PySem.W.Frag} {g : Bg} {O : Addr → Prop} {mu : List Md} {G : Gam} {σ : L2.St} {H H1 : Hp} {B B' : Bag} {A : List Addr} (F : Fr K g O mu G σ H) (hb : BagAt g.b g.l H B) (h1 : BagAt g.b g.l H1 B') (x : Ext g.b H H1) (fr : ∀ a ∈ A, H a = none) : Sub O (orA O A) H H1 := by
  refine ⟨fun a o n h => x a o (fun e => n (e ▸ F.ob)) h, fun a vs h => x a _ (fun e => by exact (hb.noT (e ▸ h)).elim) h, fun a h => .inl h, fun a h => h.elim .inl fun m => .inr (fr a m), fun a h => ?_⟩
  by_cases e : a = g.b
  · exact e ▸ h1.ne
  · cases q : H a with
    | none => exact absurd q h
    | some o => rw [x a o e q]; simp
section
variable {X : Cx} {mu : List Md} {rm : Rm} {i : Nat} {x : Str} {fk fv : DE} {e ke : Expr} {pos p2 ps : Pos}
theorem es_dicPut (hu : X.A.units + 1 < cLine) (hx : PE X (.Name x p2) (tVar i)) (hm : mu[i]? = some (.own .frz)) (hk : EV X mu ke fz fk) (he : EV X mu e fz fv) (hs : swapsWith e (some (.Subscript (.Name x p2) ke ps)) pos.line X.env = pure false := by rfl) :
    ES X mu rm (.Assign [.Subscript (.Name x p2) ke ps] e pos) (sDicPut i fk fv) := ps_imp (ps_dputE hu hx hk he hs) fun D1 σ H ⟨g, O, G, B, oc, F, hb, e, q⟩ => by
  unfold sDicPut at e
  cases e1 : fv G B with
  | none => rw [e1] at e; cases e
  | some p1 =>
    obtain ⟨d, B1⟩ := p1
    rw [e1, Option.bind_some] at e
    cases e2 : fk G B1 with
    | none => rw [e2] at e; cases e
    | some p2 =>
      obtain ⟨dx, B2⟩ := p2
      rw [e2, Option.bind_some] at e
      cases e3 : gat G i with
      | none => rw [e3] at e; cases e
      | some d0 =>
        rw [e3, Option.bind_some] at e
        cases d0 with
        | dic kvs =>
          simp only at e
          split at e <;> cases e
          rename_i hz
          refine ⟨g, O, G, B, d, B1, F, hb, e1, fun v H1 A1 G1 => ?_⟩
          have F1 := F.step hb G1.ext G1.fresh (fun a z => (G1.rw_.dom a z).2) G1.bag.ne
          obtain ⟨As, FA⟩ := F1.told
          obtain ⟨a0, v0, A, u, hv0, rfl, hA, hu0, nt0, nf0, how0⟩ := FA.own e3 hm (.inr ⟨_, rfl⟩)
          refine ⟨_, hv0, g, _, G, B1, dx, B2, F1, G1.bag, e2, fun y H2 A2 G2 => ?_⟩
          have FA2 := FA.step G1.bag G2.ext G2.fresh (fun a z => (G2.rw_.dom a z).2) G2.bag.ne
          obtain ⟨a1, v1, A', u1, hv1, hr1, hA1, hu1, nt1, nf1, how1⟩ := FA2.own e3 hm (.inr ⟨_, rfl⟩)
          rw [hv1] at hv0; cases hv0; cases hr1
          have zA : A' = [] := by
            generalize eD : D.dic kvs = dd at how1
            cases how1 with
            | dkO p0 oa ha t => exact Ow.noA.2 t (.inr (.inl rfl))
            | dtO p0 oa ha t => exact Ow.noA.2 t (.inr (.inl rfl))
            | _ => cases eD
          subst zA
          -- the value, behind the key
          have hd1 : Ow X.K g.b (orA O A1) H1 .frz v d [] := by
            have h : Ow X.K g.b (orA O A1) H1 .frz v d A1 := G1.rw_
            have hz := Ow.noA.1 h (.inr (.inl rfl))
            subst hz; exact h
          have hy : Ow X.K g.b (orA (orA O A1) A2) H2 .frz y dx [] := by
            have h : Ow X.K g.b (orA (orA O A1) A2) H2 .frz y dx A2 := G2.rw_
            have hz := Ow.noA.1 h (.inr (.inl rfl))
            subst hz; exact h
          have hoff : Off (orA O A1) g.b H1 H2 := G1.bag.off F1.ob G2.ext
          have hv2 : Ow X.K g.b (orA (orA O A1) A2) H2 .frz v d [] := (Ow.off hoff fun a n => ⟨fun z => z.elim id fun z => absurd (G2.fresh a z) n, .inl⟩).1 hd1 fun z => nomatch z
          obtain ⟨o, hp, hn⟩ := dic_put how1 hy hv2 hz.1 hz.2
          have hai : a0 ∈ As i := by rw [hA1]; exact List.mem_cons_self
          obtain ⟨oa', n0, h0⟩ := FA2.ss i a0 hai
          have nb : a0 ≠ g.b := fun z => n0 (z ▸ F.ok.b0)
          have nl : a0 ≠ g.l := fun z => n0 (z ▸ F.ok.l0)
          have hoff2 : Off (orA (orA O A1) A2) a0 H2 (upd H2 a0 o) := off_upd oa' hu1 nt1 nf1
          have n2 := FA2.mut (o := o) (d := .dic (dicPut kvs dx d)) hA1 hv1 hu1 nt1 nf1 hm (hn _ hoff2 upd_same)
          refine ⟨a0, _, rfl, hp, q σ _ _ n2.fr (G2.bag.upd nb nl (fun vs z => by rw [hu1] at z; exact nt1 vs (Option.some.inj z))) ?_⟩
          exact (Ext.subO F hb G1.bag G1.ext G1.fresh).trans ((Ext.subO F1 G1.bag G2.bag G2.ext G2.fresh).trans (sub_upd oa' hu1 nt1))
        | _ => cases e
end
end Xa
/-! XB10: lists within own dicts. -/
namespace Xa
open PySem PySem.Spec
open PyProof.Rows L2
section
variable {K : PySem.W.Frag} {b l : Addr} {O O' : Addr → Prop} {H H' : Hp} {g : Bg} {mu : List Md} {G : Gam} {σ : L2.St} {B B' : Bag} {rm : Rm} {As : Nat → List Addr} {i : Nat} {a : Addr}
theorem FrA.mutG {m : Md} {u o : HO} {d : D} {v : V} (F : FrA K g O mu G σ H As) (ha : a ∈ As i) (hv : σ[i]? = some (some v)) (hu : H a = some u) (nt : ∀ vs, u ≠ .tup vs) (nf : ∀ x y, u ≠ .frz x y) (hm : mu[i]? = some m) (hn : Ow K g.b O (upd H a o) m v d (As i)) :
    FrA K g O mu (G.set i (some d)) σ (upd H a o) As := by
  obtain ⟨oa, n0, h0⟩ := F.ss i a ha
  have hoff : Off O a H (upd H a o) := off_upd oa hu nt nf
  refine ⟨F.ok, F.sub, fun c z => ?_, fun c w n e => ?_, by rw [List.length_set]; exact F.len, F.nd, F.dj, F.ss, fun j d' e => ?_⟩
  · by_cases e : c = a
    · rw [e, upd_same]; simp
    · rw [upd_ne e]; exact F.dom c z
  · rw [upd_ne fun z => by rw [z, h0] at e; cases e]; exact F.ext0 c w n e
  · by_cases e1 : j = i
    · subst e1
      have hl : j < G.length := by
        have := (List.getElem?_eq_some_iff.mp e).1
        simpa using this
      rw [List.getElem?_set_self hl] at e
      cases e
      exact ⟨_, v, hm, hv, hn⟩
    · rw [List.getElem?_set_ne (Ne.symm e1)] at e
      obtain ⟨m', v', h1, h2, h3⟩ := F.sl j d' e
      exact ⟨m', v', h1, h2, (Ow.off hoff fun _ _ => Iff.rfl).1 h3 fun z => F.dj i j (Ne.symm e1) a ha z⟩
/-- the item at a key: what it owns, and another one in its place -/
theorem find_own {κ : Type} [DecidableEq κ] {kk : κ → D} (inj : ∀ k k', keq (kk k) (kk k') = decide (k = k')) (k : κ) {m : Md} {d : D} : ∀ {es : List (κ × V)} {ds : List D} {A : List Addr}, OwL K b O H m (es.map (·.2)) ds A → A.Nodup →
    dicFind ((es.map fun p => kk p.1).zip ds) (kk k) = some d → ∃ w Aw, valV es k = some w ∧ (∀ a ∈ Aw, a ∈ A) ∧ Ow K b O H m w d Aw ∧
      ∀ (O' : Addr → Prop) (H' : Hp) (d' : D), (∀ v d A', (∀ a ∈ A', a ∉ Aw ∧ a ∈ A) → Ow K b O H m v d A' → Ow K b O' H' m v d A') → Ow K b O' H' m w d' Aw → ∃ ds', OwL K b O' H' m (es.map (·.2)) ds' A ∧ (es.map fun p => kk p.1).zip ds' = dicSet1 ((es.map fun p => kk p.1).zip ds) (kk k) d'
  | [], ds, A, h, _, e => by cases h; cases e
  | p :: r, ds, A, h, nd, e => by
    obtain ⟨d0, ds0, A1, A2, rfl, rfl, h1, h2⟩ := OwL.cons_inv h
    obtain ⟨n1, n2, n3⟩ := List.nodup_append.mp nd
    have trs : ∀ {O' : Addr → Prop} {H' : Hp} {vs : List V} {ds : List D} {A' Aw AA : List Addr}, (∀ a ∈ A', a ∉ Aw ∧ a ∈ AA) → (∀ v d A', (∀ a ∈ A', a ∉ Aw ∧ a ∈ AA) → Ow K b O H m v d A' → Ow K b O' H' m v d A') → OwL K b O H m vs ds A' → OwL K b O' H' m vs ds A' := by
      intro O' H' vs
      induction vs with
      | nil => intro ds A' Aw AA _ _ h; cases h; exact .nil
      | cons v vs ih =>
        intro ds A' Aw AA ha T h
        obtain ⟨d1, ds1, B1, B2, rfl, rfl, q1, q2⟩ := OwL.cons_inv h
        exact .cons (T _ _ _ (fun a z => ha a (List.mem_append_left _ z)) q1) (ih (fun a z => ha a (List.mem_append_right _ z)) T q2)
    by_cases ek : p.1 = k
    · have ed : d0 = d := by simpa [dicFind, inj, ek] using e
      subst ed
      refine ⟨p.2, A1, valV_pos ek, fun a z => List.mem_append_left _ z, h1, fun O' H' d' T hw => ⟨d' :: ds0, .cons hw (trs (Aw := A1) (AA := A1 ++ A2) (fun a z => ⟨fun y => n3 a y a z rfl, List.mem_append_right _ z⟩) T h2), ?_⟩⟩
      simp [dicSet1, inj, ek]
    · have e' : dicFind ((r.map fun p => kk p.1).zip ds0) (kk k) = some d := by simpa [dicFind, inj, ek] using e
      obtain ⟨w, Aw, q1, q2, q3, q4⟩ := find_own inj k h2 n2 e'
      refine ⟨w, Aw, by rw [valV_neg ek]; exact q1, fun a z => List.mem_append_right _ (q2 a z), q3, fun O' H' d' T hw => ?_⟩
      obtain ⟨ds', s1, s2⟩ := q4 O' H' d' (fun v d A' ha q => T v d A' (fun a z => ⟨(ha a z).1, List.mem_append_right _ (ha a z).2⟩) q) hw
      refine ⟨d0 :: ds', .cons (T _ _ _ (fun a z => ⟨fun y => n3 a z a (q2 a y) rfl, List.mem_append_left _ z⟩) h1) s1, ?_⟩
      simp [dicSet1, inj, ek, s2]
/-- the list at a key of an own dict of own lists -/
theorem dic_nest {m : Md} {x : V} {kvs : List (D × D)} {dx : D} {ds0 : List D} {A : List Addr} (h : Ow K b O H (.own (.own m)) (.ref a) (.dic kvs) (a :: A)) (nd : (a :: A).Nodup) (hx : Ow K b O H .frz x dx []) (ok : okK kvs dx = true) (hf : dicFind kvs dx = some (.lst ds0)) :
    ∃ a' vs0 Aw, DGetE H a x (some (.ref a')) ∧ (∀ c ∈ a' :: Aw, c ∈ A) ∧ O a' ∧ H a' = some (.lst vs0) ∧ OwL K b O H m vs0 ds0 Aw ∧
      ∀ (O' : Addr → Prop) (H' : Hp) (d' : D), O' a → H' a = H a → (∀ v d A', (∀ c ∈ A', c ∉ a' :: Aw ∧ c ∈ A) → Ow K b O H (.own m) v d A' → Ow K b O' H' (.own m) v d A') → Ow K b O' H' (.own m) (.ref a') d' (a' :: Aw) → Ow K b O' H' (.own (.own m)) (.ref a) (.dic (dicSet1 kvs dx d')) (a :: A) := by
  unfold okK at ok
  obtain ⟨ik, hd⟩ := Bool.and_eq_true_iff.mp ok
  unfold isKey at ik
  generalize eD : D.dic kvs = dd at h
  generalize eA : a :: A = AA at h
  cases h with
  | @dkO _ _ es ds A' p oa ha t =>
    cases eD; cases eA
    cases ek0 : kOf dx with
    | some k =>
      obtain rfl := kOf_inv ek0
      obtain ⟨w, Aw, q1, q2, q3, q4⟩ := find_own keq_kD k t (List.nodup_cons.mp nd).2 hf
      cases q3 with
      | @lstO _ a' vs0 _ Aw p' oa' ha' t' =>
        refine ⟨a', vs0, Aw, .inl (.inl ⟨es, k, .inl ha, hx.key, q1.symm⟩), q2, oa', ha', t', fun O' H' d' o1 e T hw => ?_⟩
        obtain ⟨ds', s1, s2⟩ := q4 O' H' d' T hw
        rw [← s2]
        exact .dkO p o1 (e.trans ha) s1
    | none =>
      rw [ek0] at ik
      cases et : tOf dx with
      | none => rw [et] at ik; cases ik
      | some ks =>
        cases es with
        | nil => cases t; cases hf
        | cons p' r' =>
          obtain ⟨d, ds', A1, A2, rfl, eA, h1, h2⟩ := OwL.cons_inv t
          have hd' : ((kOf (kD p'.1)).isSome == (kOf dx).isSome) = true := hd
          rw [kOf_kD, ek0] at hd'
          cases hd'
  | @dtO _ _ es ds A' p oa ha t =>
    cases eD; cases eA
    cases et : tOf dx with
    | some ks =>
      obtain rfl := tOf_inv et
      obtain ⟨b', e1, e2⟩ := hx.tkey
      obtain ⟨w, Aw, q1, q2, q3, q4⟩ := find_own keq_kT ks t (List.nodup_cons.mp nd).2 hf
      cases q3 with
      | @lstO _ a' vs0 _ Aw p' oa' ha' t' =>
        refine ⟨a', vs0, Aw, .inl (.inr ⟨es, ks, b', .inl ha, e1, e2, q1.symm⟩), q2, oa', ha', t', fun O' H' d' o1 e T hw => ?_⟩
        obtain ⟨ds', s1, s2⟩ := q4 O' H' d' T hw
        rw [← s2]
        exact .dtO p o1 (e.trans ha) s1
    | none =>
      rw [et] at ik
      cases ek0 : kOf dx with
      | none => rw [ek0] at ik; cases ik
      | some k =>
        cases es with
        | nil => cases t; cases hf
        | cons p' r' =>
          obtain ⟨d, ds', A1, A2, rfl, eA, h1, h2⟩ := OwL.cons_inv t
          have hd' : ((kOf (kT p'.1)).isSome == (kOf dx).isSome) = true := hd
          rw [kOf_kT, ek0] at hd'
          cases hd'
  | _ => cases eD
end
/-- d[k].append(e), over data -/
def sNest (i : Nat) (fk : DE) (fm : List D → List D → Option (List D × D)) (fs : DA) : DS := fun G B => (fk G B).bind fun q => (fs G q.2).bind fun p => (gat G i).bind fun d => match d with
  | .dic kvs => if okK kvs q.1 = true then (dicFind kvs q.1).bind fun d1 => match d1 with
    | .lst ds => (fm ds p.1).map fun r => .nx (G.set i (some (.dic (dicSet1 kvs q.1 (.lst r.1))))) p.2
    | _ => none
   else none
  | _ => none
section
variable {X : Cx} {mu : List Md} {rm : Rm} {e ke : Expr} {es : List Expr} {fk : DE} {fs : DA} {pos p2 ps apos cpos : Pos} {i : Nat} {x name : Str} {id : String} {r : V → List V → Hp → VK → Prop} {fm : List D → List D → Option (List D × D)}
theorem es_nest {n : Nat} (hu : X.A.units + 1 < cLine) (slot : Slot "list" name id) (hty : typeOf (.builtin id) = pure (.type "method_descriptor")) (hr : MtR X id r) (hmt : MtD X r fm) (hx : PE X (.Name x p2) (tVar i)) (hm : mu[i]? = some (.own (.own .frz))) (hk : EV X mu ke fz fk) (ha : AV X mu (e :: es) (List.replicate n fz) fs)
    (hpl : PlainIx ke := by intro _ _; rfl)
    (hbase : attributeBase (.Subscript (.Name x p2) ke ps) name X.env (eval (.Subscript (.Name x p2) ke ps) X.env) = eval (.Subscript (.Name x p2) ke ps) X.env := by rfl)
    (hfew : ((backTo cpos (starEach (e :: es) X.env)).all (fun x => !x.1) && (backToKw cpos (keywordEach [] X.env)).all (fun x => x.1.isSome) && decide ((e :: es).length + ([] : List Keyword).length + (if ([] : List Keyword).isEmpty then 0 else 1) < 30)) = true := by rfl)
    (hline : (apos.endLine == cpos.line) = true := by rfl) (hs : starEach (e :: es) X.env = (false, eval e X.env) :: starEach es X.env := by rfl) (hplain : (backTo cpos (starEach es X.env)).any (·.1) = false := by rfl)
    (hsw : swapsWith (.Call (.Attribute (.Subscript (.Name x p2) ke ps) name apos) (e :: es) [] cpos) none pos.line X.env = pure false := by rfl) : ES X mu rm (.Expr (.Call (.Attribute (.Subscript (.Name x p2) ke ps) name apos) (e :: es) [] cpos) pos) (sNest i fk fm fs) :=
  ps_imp (ps_expr (pe_bm PySem.F.plainAttrs_list slot hty hr (pe_ix (ix_dic hu) hx hk hpl) ha hbase hfew hline hs hplain) hsw) fun D1 σ H ⟨g, O, G, B, oc, F, hb, e, q⟩ => by
    unfold sNest at e
    cases e1 : fk G B with
    | none => rw [e1] at e; cases e
    | some p1 =>
      obtain ⟨dx, B1⟩ := p1
      rw [e1, Option.bind_some] at e
      cases e2 : fs G B1 with
      | none => simp only [e2] at e; cases e
      | some p2 =>
        obtain ⟨ds, B2⟩ := p2
        simp only [e2, Option.bind_some] at e
        cases e3 : gat G i with
        | none => simp only [e3] at e; cases e
        | some d0 =>
          simp only [e3, Option.bind_some] at e
          cases d0 with
          | dic kvs =>
            simp only at e
            split at e
            · rename_i hok
              cases e4 : dicFind kvs dx with
              | none => rw [e4] at e; cases e
              | some d1 =>
                rw [e4, Option.bind_some] at e
                cases d1 with
                | lst ds0 =>
                  simp only at e
                  cases e5 : fm ds0 ds with
                  | none => rw [e5] at e; cases e
                  | some r5 =>
                    obtain ⟨ds', d'⟩ := r5
                    rw [e5] at e; cases e
                    obtain ⟨As, FA⟩ := F.told
                    obtain ⟨a, v0, A, u, hv0, rfl, hA, hu0, nt0, nf0, how0⟩ := FA.own e3 hm (.inr ⟨_, rfl⟩)
                    refine ⟨_, hv0, g, O, G, B, dx, B1, F, hb, e1, fun y H1 A1 G1 => ?_⟩
                    have FA1 := FA.step hb G1.ext G1.fresh (fun a z => (G1.rw_.dom a z).2) G1.bag.ne
                    obtain ⟨a1, v1, A', u1, hv1, hr1, hA1, hu1, nt1, nf1, how1⟩ := FA1.own e3 hm (.inr ⟨_, rfl⟩)
                    rw [hv1] at hv0; cases hv0; cases hr1
                    rw [hA1] at hA; cases hA
                    have hy : Ow X.K g.b (orA O A1) H1 .frz y dx [] := by
                      have h : Ow X.K g.b (orA O A1) H1 .frz y dx A1 := G1.rw_
                      have hz := Ow.noA.1 h (.inr (.inl rfl))
                      subst hz; exact h
                    obtain ⟨a', vs0, Aw, g1, g2, g3, g4, g5, g6⟩ := dic_nest how1 (by rw [← hA1]; exact FA1.nd i) hy hok e4
                    have hAw := Ow.noA.2 g5 (.inr (.inl rfl))
                    subst hAw
                    refine ⟨_, _, rfl, g1, .inl ⟨rfl, _, .inl (.inl g4)⟩, g, _, G, B1, ds, _, FA1.fr, G1.bag, e2, fun ws H2 A2 G2 => ?_⟩
                    have FA2 := FA1.step G1.bag G2.ext G2.fresh (fun a z => (G2.rw_.dom a z).2) G2.bag.ne
                    have ma' : a' ∈ As i := by rw [hA1]; exact List.mem_cons_of_mem _ (g2 a' List.mem_cons_self)
                    have ma : a ∈ As i := by rw [hA1]; exact List.mem_cons_self
                    obtain ⟨oa', n0, h0⟩ := FA2.ss i a' ma'
                    obtain ⟨oa, n0a, h0a⟩ := FA2.ss i a ma
                    have nb : a' ≠ g.b := fun z => n0 (z ▸ F.ok.b0)
                    have nl : a' ≠ g.l := fun z => n0 (z ▸ F.ok.l0)
                    have nba : a ≠ g.b := fun z => n0a (z ▸ F.ok.b0)
                    have naa : a ≠ a' := fun z => by
                      have nd := FA1.nd i
                      rw [hA1] at nd
                      exact (List.nodup_cons.mp nd).1 (z ▸ g2 a' List.mem_cons_self)
                    have hoff1 : Off (orA O A1) g.b H1 H2 := G1.bag.off FA1.fr.ob G2.ext
                    have ho1 : ∀ a, H1 a ≠ none → (orA (orA O A1) A2 a ↔ orA O A1 a) := fun a n => ⟨fun z => z.elim (fun z => z) fun z => absurd (G2.fresh a z) n, .inl⟩
                    have hl2 : H2 a' = some (.lst vs0) := G2.ext _ _ nb g4
                    have t2 : OwL X.K g.b (orA (orA O A1) A2) H2 .frz vs0 ds0 [] := (Ow.off hoff1 ho1).2 g5 fun z => nomatch z
                    have tws : OwL X.K g.b (orA (orA O A1) A2) H2 .frz ws ds [] := by
                      have := RwL.own G2.rw_
                      have hz := Ow.noA.2 this (.inr (.inl rfl))
                      rw [hz] at this ⊢
                      exact this
                    obtain ⟨vs', w, t3, t4, t5⟩ := hmt g.b _ H2 a' vs0 ws ds0 ds ds' d' hl2 t2 tws e5
                    have hoff2 : Off (orA (orA O A1) A2) a' H2 (upd H2 a' (.lst vs')) := off_upd oa' hl2 (fun _ z => by cases z) fun _ _ z => by cases z
                    have ha2 : upd H2 a' (.lst vs') a = H1 a := by
                      rw [upd_ne naa, hu1]
                      exact G2.ext _ _ nba hu1
                    have n2 := FA2.mutG (i := i) (o := .lst vs') (d := .dic (dicSet1 kvs dx (.lst ds'))) ma' hv1 hl2 (fun _ z => by cases z) (fun _ _ z => by cases z) hm (by
                      rw [hA1]
                      refine g6 _ _ _ oa ha2 (fun v d A' hA' q => ?_) (.lstO (by decide) oa' upd_same ((Ow.off hoff2 fun _ _ => Iff.rfl).2 t3 fun z => nomatch z))
                      refine (Ow.off hoff2 fun _ _ => Iff.rfl).1 ((Ow.off hoff1 ho1).1 q fun z => ?_) fun z => (hA' _ z).1 List.mem_cons_self
                      exact (FA2.ss i g.b (by rw [hA1]; exact List.mem_cons_of_mem _ (hA' _ z).2)).2.1 F.ok.b0)
                    refine t5 _ (q σ _ _ n2.fr (G2.bag.upd nb nl (fun _ z => by rw [hl2] at z; cases z)) ?_)
                    exact (Ext.subO F hb G1.bag G1.ext G1.fresh).trans ((Ext.subO FA1.fr G1.bag G2.bag G2.ext G2.fresh).trans (sub_upd oa' hl2 fun _ z => by cases z))
                | _ => cases e
            · cases e
          | _ => cases e
end
end Xa
/-! XB11: dict comprehensions. -/
namespace Xa
open PySem PySem.Spec
open PyProof.Rows L2
def dcGo (tgt : TgD) (u : DT) (fk fv : DE) (G : Gam) : List D → List (D × D) → Bag → Option (List (D × D) × Bag)
  | [], acc, B => some (acc, B)
  | d :: r, acc, B => (tgt G d).bind fun G1 => (u G1 B).bind fun c => if c.1 = true then (fk G1 c.2).bind fun k => (fv G1 k.2).bind fun p => if (kOf k.1).isSome = true ∧ (acc.any fun q => keq q.1 k.1) = false then dcGo tgt u fk fv G r (acc ++ [(k.1, p.1)]) p.2 else none else dcGo tgt u fk fv G r acc c.2
def dDc (src : DA) (own : List Nat) (tgt : TgD) (u : DT) (fk fv : DE) : DE := fun G B => (src G B).bind fun p => if p.1.length ≤ sizeLine then (dcGo tgt u fk fv (wipeG G own) p.1 [] p.2).map fun q => (.dic q.1, q.2) else none
section
variable {X : Cx} {mu : List Md} {tg iter kx vx : Expr} {ifs : List Expr} {src : DA} {f fk fv : DE} {u : DT} {pos p : Pos} {own : List (Str × Nat)} {scope : Scope} {gt : TG} {tgt : TgD} {m : Md}
theorem any_zip {es : List (Key × V)} {ds : List D} (hl : (es.map (·.2)).length = ds.length) (k : Key) : (((es.map fun p => kD p.1).zip ds).any fun q => keq q.1 (kD k)) = (es.any fun p => decide (p.1 = k)) := by
  induction es generalizing ds with
  | nil => rfl
  | cons e r ih =>
    cases ds with
    | nil => simp at hl
    | cons d0 ds =>
      have := ih (ds := ds) (by simpa using hl)
      simp only [List.map_cons, List.zip_cons_cons, List.any_cons, keq_kD]
      rw [this]
theorem dc_imp (hm : m ≠ .bag) (hg : TgOk X.K mu (own.map (·.2)) gt tgt) (σ : L2.St) (H : Hp) (Q : VK) (h : tE X.K mu (.val (.own m)) (dDc src (own.map (·.2)) tgt u fk fv) σ H Q) :
    tDc (tI WalkC X.K mu src) gt (tTs X.K mu u) (tE X.K mu fz fk) (tE X.K mu (.val m) fv) (own.map (·.2)) σ H Q := by
  obtain ⟨g, O, G, B, d, B', F, hb, e, q⟩ := h
  unfold dDc at e
  cases e1 : src G B with
  | none => rw [e1] at e; cases e
  | some p =>
    obtain ⟨ds, B1⟩ := p
    rw [e1, Option.bind_some] at e
    simp only at e
    split at e
    · rename_i hz
      cases e2 : dcGo tgt u fk fv (wipeG G (own.map (·.2))) ds [] B1 with
      | none => rw [e2] at e; cases e
      | some q2 =>
        obtain ⟨res, B2⟩ := q2
        rw [e2] at e
        cases e
        refine ⟨g, O, G, B, ds, B1, F, hb, e1, fun J H1 x1 b1 wk Dd nD => ?_⟩
        have F1 := F.step0 hb x1 b1
        have Dne : ∀ {c o}, H1 c = some o → c ≠ Dd := fun h z => by rw [z, nD] at h; cases h
        -- what holds ahead of turn i
        let In : Nat → Hp → Prop := fun i H => ∃ (es : List (Key × V)) (dl : List D) (A : List Addr) (Bi : Bag), H Dd = some (.dK es) ∧ es.length ≤ i ∧ OwL X.K g.b (orA O (Dd :: A)) H m (es.map (·.2)) dl A ∧ dcGo tgt u fk fv (wipeG G (own.map (·.2))) (ds.drop i) ((es.map fun p => kD p.1).zip dl) Bi = some (res, B2) ∧
            Ext g.b H1 H ∧ BagAt g.b g.l H Bi ∧ (∀ a ∈ A, H1 a = none) ∧ (Dd :: A).Nodup
        refine ⟨fun i k H => k = ds.length - i ∧ i ≤ ds.length ∧ In i H, ⟨ds.length, by simp, Nat.zero_le _, [], [], [], B1, upd_same, Nat.le_refl _, .nil, e2, fun a o n h => by rw [upd_ne (Dne h)]; exact h, b1.grow (fun a o z => by rw [upd_ne (Dne z)]; exact z), (fun a z => nomatch z), by simp⟩, ?_⟩
        rintro i k Hi ⟨rfl, hi, es, dl, A, Bi, hD, hl, t, ec, xi, bi, fA, nd⟩
        have eqv : ∀ a, H1 a ≠ none → (orA O (Dd :: A) a ↔ O a) := fun a n => ⟨fun z => z.elim id fun z => (List.mem_cons.mp z).elim (fun e => absurd nD (e ▸ n)) fun z => absurd (fA a z) n, .inl⟩
        have dmA : ∀ a ∈ A, Hi a ≠ none := fun a z => (Ow.dom.2 t a z).2
        have dmO : ∀ a, orA O (Dd :: A) a → Hi a ≠ none := fun a z => by
          rcases z with z | z
          · by_cases e : a = g.b
            · exact e ▸ bi.ne
            · cases h : H1 a with
              | none => exact absurd h (F1.dom a z)
              | some o => rw [xi a o e h]; simp
          · rcases List.mem_cons.mp z with e | z
            · rw [e, hD]; simp
            · exact dmA a z
        have Fi : Fr X.K g (orA O (Dd :: A)) mu (wipeG G (own.map (·.2))) (wipe σ (own.map (·.2))) Hi := (F1.more b1 xi bi eqv dmO).wiped _
        have yl := wk (orA O (Dd :: A)) Hi xi eqv bi.box
        by_cases hlt : i < ds.length
        · obtain ⟨dI, hdI⟩ : ∃ dI, ds[i]? = some dI := ⟨ds[i], List.getElem?_eq_getElem hlt⟩
          obtain ⟨go, yld⟩ := yl.1 i dI hdI
          have edrop : ds.drop i = dI :: ds.drop (i + 1) := by
            rw [List.drop_eq_getElem_cons hlt]; rw [List.getElem?_eq_getElem hlt] at hdI
            cases hdI; rfl
          rw [edrop] at ec
          unfold dcGo at ec
          cases c1 : tgt (wipeG G (own.map (·.2))) dI with
          | none => rw [c1] at ec; cases ec
          | some G1 =>
            rw [c1, Option.bind_some] at ec
            cases c2 : u G1 Bi with
            | none => rw [c2] at ec; cases ec
            | some p2 =>
              obtain ⟨c, Bc⟩ := p2
              simp only [c2, Option.bind_some] at ec
              refine .inr ⟨go, fun H => In (i + 1) H, fun H' h => ⟨ds.length - (i + 1), by omega, rfl, hlt, h⟩, fun x H' y => ?_⟩
              obtain ⟨gr, ox⟩ := yld x H' y
              have b' : BagAt g.b g.l H' Bi := bi.grow gr
              have F' : Fr X.K g (orA O (Dd :: A)) mu (wipeG G (own.map (·.2))) (wipe σ (own.map (·.2))) H' := Fi.more bi (fun a o _ h => gr a o h) b' (fun _ _ => Iff.rfl) fun a z => by
                cases h : Hi a with
                | none => exact absurd h (dmO a z)
                | some o => rw [gr a o h]; simp
              refine hg g _ _ G1 _ H' x dI _ F' ox c1 fun σ2 F2 hw => ⟨hw σ rfl, ?_⟩
              refine ⟨g, _, G1, Bi, c, Bc, F2, b', c2, fun H3 x3 b3 => ?_⟩
              have F3 := F2.step0 b' x3 b3
              have xi3 : Ext g.b Hi H3 := fun a o n h => x3 a o n (gr a o h)
              have nbA : g.b ∉ A := fun z => b1.ne (fA _ z)
              have nDb : Dd ≠ g.b := fun z => b1.ne (z ▸ nD)
              have offi : Off (orA O (Dd :: A)) g.b Hi H3 := bi.off (.inl F.ob) xi3
              have t3 : OwL X.K g.b (orA O (Dd :: A)) H3 m (es.map (·.2)) dl A := (Ow.off offi fun _ _ => Iff.rfl).2 t nbA
              have hD3 : H3 Dd = some (.dK es) := xi3 _ _ nDb hD
              have x13 : Ext g.b H1 H3 := fun a o n h => xi3 a o n (xi a o n h)
              cases c with
              | false =>
                rw [if_neg Bool.false_ne_true] at ec
                exact iteF ⟨es, dl, A, Bc, hD3, by omega, t3, ec, x13, b3, fA, nd⟩
              | true =>
                rw [if_pos rfl] at ec
                refine iteT ?_
                cases c0 : fk G1 Bc with
                | none => rw [c0] at ec; cases ec
                | some p0 =>
                  obtain ⟨dk, Bk⟩ := p0
                  simp only [c0, Option.bind_some] at ec
                  cases c3 : fv G1 Bk with
                  | none => rw [c3] at ec; cases ec
                  | some p3 =>
                    obtain ⟨dE, Be⟩ := p3
                    simp only [c3, Option.bind_some] at ec
                    split at ec
                    · rename_i hk
                      refine ⟨g, _, G1, Bc, dk, Bk, F3, b3, c0, fun y H4 Ak Gk => ?_⟩
                      have F4 := F3.step0 b3 Gk.ext Gk.bag
                      have x14 : Ext g.b H1 H4 := fun a o n h => Gk.ext a o n (x13 a o n h)
                      have t4 : OwL X.K g.b (orA O (Dd :: A)) H4 m (es.map (·.2)) dl A := (Ow.off (b3.off (.inl F.ob) Gk.ext) fun _ _ => Iff.rfl).2 t3 nbA
                      have hD4 : H4 Dd = some (.dK es) := Gk.ext _ _ nDb hD3
                      obtain ⟨k, ek⟩ : ∃ k, kOf dk = some k := Option.isSome_iff_exists.mp hk.1
                      obtain rfl := kOf_inv ek
                      have ey : y = kV k := Ow.key (Gk.rw_ : Ow X.K g.b _ H4 .frz y (kD k) Ak)
                      refine ⟨g, _, G1, Bk, dE, Be, F4, Gk.bag, c3, fun z H5 A5 G5 => ⟨es, k, ey, ?_⟩⟩
                      have nb5 : g.b ∉ A5 := fun z => Gk.bag.ne (G5.fresh _ z)
                      have hD5 : H5 Dd = some (.dK es) := G5.ext _ _ nDb hD4
                      have off45 : Off (orA O (Dd :: A)) g.b H4 H5 := Gk.bag.off (.inl F.ob) G5.ext
                      have eO : orA (orA O (Dd :: A)) A5 = orA O (Dd :: (A ++ A5)) := by
                        funext a
                        simp only [orA, List.mem_cons, List.mem_append, or_assoc]
                      have t5 : OwL X.K g.b (orA O (Dd :: (A ++ A5))) H5 m (es.map (·.2)) dl A := (Ow.off off45 fun a n => by
                        rw [← eO]
                        exact ⟨fun z => z.elim id fun z => absurd (G5.fresh a z) n, .inl⟩).2 t4 nbA
                      have r5 := G5.rw_
                      rw [eO] at r5
                      have nDA5 : Dd ∉ A5 := fun z => by have := G5.fresh _ z; rw [hD4] at this; cases this
                      obtain ⟨nDA, ndA⟩ := List.nodup_cons.mp nd
                      have dA : ∀ a ∈ A, H4 a ≠ none := fun a z => (Ow.dom.2 t4 a z).2
                      have hoff : Off (orA O (Dd :: (A ++ A5))) Dd H5 (upd H5 Dd (.dK (es ++ [(k, z)]))) := off_upd (.inr List.mem_cons_self) hD5 (fun _ z => by cases z) fun _ _ z => by cases z
                      have hnew : valV es k = none := by
                        have h1 := any_zip t.len k
                        rw [hk.2] at h1
                        have h2 := valV_any k es
                        rw [← h1] at h2
                        cases h3 : valV es k with
                        | none => rfl
                        | some w => rw [h3] at h2; cases h2
                      refine ⟨hD5, Nat.lt_of_lt_of_le (Nat.lt_of_le_of_lt hl hlt) hz, ?_⟩
                      rw [putK_new z hnew]
                      refine ⟨es ++ [(k, z)], dl ++ [dE], A ++ A5, Be, upd_same, by rw [List.length_append]; simpa using hl, ?_, ?_, fun a o n h => ?_, G5.bag.upd nDb (fun z => by rw [z, b1.cells] at nD; cases nD) (fun _ z => by rw [hD5] at z; cases z), fun a z => ?_, ?_⟩
                      · have h1 := (Ow.off hoff fun _ _ => Iff.rfl).2 t5 nDA
                        have h2 := (Ow.off hoff fun _ _ => Iff.rfl).1 r5 nDA5
                        have h3 : OwL X.K g.b (orA O (Dd :: (A ++ A5))) (upd H5 Dd (.dK (es ++ [(k, z)]))) m [z] [dE] (A5 ++ []) := .cons h2 .nil
                        rw [List.append_nil] at h3
                        have h4 := h1.app h3
                        rw [List.map_append]
                        exact h4
                      · rw [List.map_append, List.zip_append (by have := t.len; simpa using this)]
                        exact ec
                      · rw [upd_ne (Dne h)]
                        exact G5.ext a o n (x14 a o n h)
                      · rcases List.mem_append.mp z with z | z
                        · exact fA a z
                        · cases h : H1 a with
                          | none => rfl
                          | some o =>
                            by_cases e : a = g.b
                            · exact absurd (e ▸ z) nb5
                            · have := G5.fresh a z
                              rw [x14 a o e h] at this; cases this
                      · refine List.nodup_cons.mpr ⟨fun z => (List.mem_append.mp z).elim nDA nDA5, List.nodup_append.mpr ⟨ndA, G5.nd, fun a z c z' ee => ?_⟩⟩
                        subst ee
                        exact dA a z (G5.fresh a z')
                    · cases ec
        · have ei : i = ds.length := by omega
          subst ei
          rw [List.drop_length] at ec
          unfold dcGo at ec
          cases ec
          refine .inl ⟨yl.2, q _ Hi (Dd :: A) ⟨fun a o n h => xi a o n (x1 a o n h), fun a z => ?_, nd, bi, ?_⟩⟩
          · have nn : H1 a = none := (List.mem_cons.mp z).elim (fun e => e ▸ nD) (fA a)
            cases h : H a with
            | none => rfl
            | some o =>
              by_cases e : a = g.b
              · exact (b1.ne (e ▸ nn)).elim
              · rw [x1 a o e h] at nn; cases nn
          · exact Ow.dkO hm (.inr List.mem_cons_self) hD t
    · cases e
theorem ps_setDc {i : Nat} {y : Str} {py spos : Pos} {wi : TI} {g : TG} {tt : TT} {tk tv : TE} (hc : X.calm = true) (hN : X.N.Nodup) (hy : X.N[i]? = some y) (hyl : X.env.scope.names.lookup y = some .local) (hsw : swapsWith (.DictComp kx vx [⟨tg, iter, ifs, 0⟩] scope pos) (some (.Name y py)) spos.line X.env = pure true) (hi : PI X tg iter wi) (ok : BlkOk X.N X.env.scope scope own) (hg : ∀ (s : Shared) (H : Hp) (C : Addr) (cl : List (Str × Addr)) (fp : List Addr), PG (X.blk s H scope (compEnvC scope cl C X.env) fp) tg g) (ht : ∀ (s : Shared) (H : Hp) (C : Addr) (cl : List (Str × Addr)) (fp : List Addr), PTs (X.blk s H scope (compEnvC scope cl C X.env) fp) ifs tt)
    (hk : ∀ (s : Shared) (H : Hp) (C : Addr) (cl : List (Str × Addr)) (fp : List Addr), PE (X.blk s H scope (compEnvC scope cl C X.env) fp) kx tk) (he : ∀ (s : Shared) (H : Hp) (C : Addr) (cl : List (Str × Addr)) (fp : List Addr), PE (X.blk s H scope (compEnvC scope cl C X.env) fp) vx tv)
    (hs : ∀ x, foldedSetIterable iter X.env x = pure x := by intro _; rfl) : PS X (.Assign [.Name y py] (.DictComp kx vx [⟨tg, iter, ifs, 0⟩] scope pos) spos) (tAsg (tDc wi g tt tk tv (own.map (·.2))) (gName i)) := by
  refine ⟨fun pins s σ H D I h => ?_⟩; rw [exec_Assign_Name_used _ _ _ _ hsw]
  refine wpAny_bind (wpAny_standAt (wpAny_bind ?_)); show wpAny _ X.A (do let _ ← comprehension (.DictComp kx vx [⟨tg, iter, ifs, 0⟩] scope pos) scope X.env (firstIterPos [⟨tg, iter, ifs, 0⟩] pos) newDict false (eval iter X.env) (some (assign (.Name y py) X.env))) _ _ s
  have h : tDc wi g tt tk tv (own.map (·.2)) σ H (fun x H1 => gName i x σ H1 D.nx) := h
  refine wpAny_bind (thn (dc_core (Qf := fun _ s' => SP X pins D .next s') hc hN I hi ok hg ht hk he hs h fun L C s' m H' I' q hn f => ?_) fun _ s' hq => wpAny_pure (wpAny_pure hq))
  show wpAny _ _ (assign (.Name y py) X.env (.ref L)) _ _ _; obtain ⟨f0, f1, f2, f3, f4, f5⟩ := f
  refine wpAny_assign_Name (store_ok2 (v := V.ref L) I' hN hy (.inl hyl) rfl (fun s2 I2 ⟨a, sb, ha⟩ => ⟨m, hn.sameBut sb ?_, fun h3 sb3 => ⟨_, H', I2.turned (t' := s2.toks) (fun b o hb e => (sb3.2 b hb).trans e) f0 f1 f3 f4 f5, q⟩⟩) (.inr hyl))
  rcases ha with z | z
  · exact z ▸ f1
  · exact fun e =>
      f4 y a z e.symm
theorem sw_dc {gs : List Comprehension} {py : Pos} {y : Str} {l : Nat} {env : Env} (hk : env.scope.kind = .function) (hy : env.scope.names.lookup y = some .local) (hl : (py.line == pos.line) = true) (ha : (scope.names.any fun (n, k) => n == y && (k == .local || k == .cell)) = false) : swapsWith (.DictComp kx vx gs scope pos) (some (.Name y py)) l env = pure true := by
  have h1 : env.kindOf y = some .local := hy
  have h2 : env.blockKind = .function := by unfold Env.blockKind; rw [hk]; rfl
  unfold swapsWith
  simp only [h1, h2, ha, Expr.pos, hl]
  rfl
theorem es_setDc {rm : Rm} {i : Nat} {y : Str} {py spos : Pos} (hc : X.calm = true) (hN : X.N.Nodup) (hy : X.N[i]? = some y) (hyl : X.env.scope.names.lookup y = some .local) (hsw : swapsWith (.DictComp kx vx [⟨tg, iter, ifs, 0⟩] scope pos) (some (.Name y py)) spos.line X.env = pure true) (hi : EIC X mu tg iter src) (ok : BlkOk X.N X.env.scope scope own) (hm : m ≠ .bag) (hmi : mu[i]? = some (.own m))
    (hg : ∀ (s : Shared) (H : Hp) (C : Addr) (cl : List (Str × Addr)) (fp : List Addr), PG (X.blk s H scope (compEnvC scope cl C X.env) fp) tg gt) (hgt : TgOk X.K mu (own.map (·.2)) gt tgt)
    (ht : ∀ (s : Shared) (H : Hp) (C : Addr) (cl : List (Str × Addr)) (fp : List Addr), EIfs (X.blk s H scope (compEnvC scope cl C X.env) fp) mu ifs u)
    (hk : ∀ (s : Shared) (H : Hp) (C : Addr) (cl : List (Str × Addr)) (fp : List Addr), EV (X.blk s H scope (compEnvC scope cl C X.env) fp) mu kx fz fk) (he : ∀ (s : Shared) (H : Hp) (C : Addr) (cl : List (Str × Addr)) (fp : List Addr), EV (X.blk s H scope (compEnvC scope cl C X.env) fp) mu vx (.val m) fv) (hs : ∀ x, foldedSetIterable iter X.env x = pure x := by intro _; rfl) :
    ES X mu rm (.Assign [.Name y py] (.DictComp kx vx [⟨tg, iter, ifs, 0⟩] scope pos) spos) (sSet i (dDc src (own.map (·.2)) tgt u fk fv)) := ps_imp (ps_setDc (tt := tTs X.K mu u) (tk := tE X.K mu fz fk) (tv := tE X.K mu (.val m) fv) hc hN hy hyl hsw hi ok hg ht hk he hs) fun D σ H h => dc_imp hm hgt σ H _ (set_imp hmi D σ H h)
theorem ev_dc (hc : X.calm = true) (hN : X.N.Nodup) (hi : EIC X mu tg iter src) (ok : BlkOk X.N X.env.scope scope own) (hm : m ≠ .bag)
    (hg : ∀ (s : Shared) (H : Hp) (C : Addr) (cl : List (Str × Addr)) (fp : List Addr), PG (X.blk s H scope (compEnvC scope cl C X.env) fp) tg gt) (hgt : TgOk X.K mu (own.map (·.2)) gt tgt)
    (ht : ∀ (s : Shared) (H : Hp) (C : Addr) (cl : List (Str × Addr)) (fp : List Addr), EIfs (X.blk s H scope (compEnvC scope cl C X.env) fp) mu ifs u)
    (hk : ∀ (s : Shared) (H : Hp) (C : Addr) (cl : List (Str × Addr)) (fp : List Addr), EV (X.blk s H scope (compEnvC scope cl C X.env) fp) mu kx fz fk) (he : ∀ (s : Shared) (H : Hp) (C : Addr) (cl : List (Str × Addr)) (fp : List Addr), EV (X.blk s H scope (compEnvC scope cl C X.env) fp) mu vx (.val m) fv) (hs : ∀ x, foldedSetIterable iter X.env x = pure x := by intro _; rfl) :
    EV X mu (.DictComp kx vx [⟨tg, iter, ifs, 0⟩] scope pos) (.val (.own m)) (dDc src (own.map (·.2)) tgt u fk fv) := pe_imp (pe_dc (tt := tTs X.K mu u) (tk := tE X.K mu fz fk) (tv := tE X.K mu (.val m) fv) hc hN hi ok hg ht hk he hs) (dc_imp hm hgt)
end
end Xa
/-! XB12: dict displays, dict(..). -/
namespace Xa
open PySem PySem.Spec
open PyProof.Rows L2
section
variable {K : PySem.W.Frag} {b l : Addr} {O O' : Addr → Prop} {H H' : Hp} {m : Md}
def pairsOf : List D → Option (List (D × D))
  | [] => some []
  | .tup [k, x] :: r => if (kOf k).isSome = true then (pairsOf r).bind fun ps => if ps.any (fun p => keq p.1 k) = true then none else some ((k, x) :: ps) else none
  | _ :: _ => none
def fDictP (x : D) : Option D := match x with | .lst ds => (pairsOf ds).map D.dic | _ => none
theorem mergeK_new : ∀ (more kvs : List (Key × V)), (more.map (·.1)).Nodup → (∀ p ∈ more, valV kvs p.1 = none) → mergeK kvs more = kvs ++ more
  | [], kvs, _, _ => by simp [mergeK]
  | p :: r, kvs, nd, h => by
    rw [List.map_cons, List.nodup_cons] at nd; have e : mergeK kvs (p :: r) = mergeK (putK kvs p.1 p.2) r := rfl
    rw [e, putK_new p.2 (h p List.mem_cons_self), mergeK_new r _ nd.2 fun q hq => ?_]
    · simp
    · have hne : ¬ q.1 = p.1 := fun e => nd.1 (by rw [← e]; exact List.mem_map_of_mem hq)
      rw [valV_snoc p.1 q.1 p.2 kvs (h p List.mem_cons_self), if_neg hne]
      exact h q (List.mem_cons_of_mem _ hq)
theorem pairs_own : ∀ {vs : List V} {ds : List D} {A : List Addr} {ps : List (D × D)}, OwL K b O H m vs ds A → pairsOf ds = some ps → ∃ (ads : List Addr) (kvs : List (Key × V)) (xs : List D), vs = ads.map V.ref ∧ Paired (fun p kv => SqT K H p [kV kv.1, kv.2]) ads kvs ∧ OwL K b O H m (kvs.map (·.2)) xs A ∧ (kvs.map fun p => kD p.1).zip xs = ps ∧ (kvs.map (·.1)).Nodup
  | [], ds, A, ps, h, e => by
    cases h; cases e
    exact ⟨[], [], [], rfl, .nil, .nil, rfl, List.nodup_nil⟩
  | v :: r, ds, A, ps, h, e => by
    obtain ⟨d, ds', A1, A2, rfl, rfl, h1, h2⟩ := OwL.cons_inv h
    unfold pairsOf at e
    split at e
    · rename_i z; cases z
    · rename_i k x r' z
      cases z
      split at e
      · rename_i hk
        cases e2 : pairsOf ds' with
        | none => rw [e2] at e; cases e
        | some ps' =>
          rw [e2, Option.bind_some] at e
          split at e <;> cases e
          rename_i hn
          obtain ⟨ads, kvs, xs, q1, q2, q3, q4, q5⟩ := pairs_own h2 e2
          cases h1 with
          | @tup _ a vs0 _ _ hm ha t =>
            obtain ⟨w, vs1, B1, B2, rfl, rfl, t1, t2⟩ := t.consd_inv
            obtain ⟨w2, vs2, B3, B4, rfl, rfl, t3, t4⟩ := t2.consd_inv
            cases t4
            obtain ⟨k0, ek⟩ : ∃ k0, kOf k = some k0 := Option.isSome_iff_exists.mp hk
            obtain rfl := kOf_inv ek
            obtain rfl := t1.key
            have z1 : B1 = [] := by cases k0 <;> (cases t1; rfl)
            subst z1
            refine ⟨a :: ads, (k0, w2) :: kvs, x :: xs, by rw [q1]; rfl, .cons (.inl (.inl ha)) q2, ?_, by simp [q4], ?_⟩
            · rw [List.append_nil, List.nil_append]
              exact .cons t3 q3
            · rw [List.map_cons]
              refine List.nodup_cons.mpr ⟨fun z => hn ?_, q5⟩
              rw [← q4, any_zip q3.len]
              obtain ⟨p, hp, ep⟩ := List.mem_map.mp z
              exact List.any_eq_true.mpr ⟨p, hp, by simp [ep]⟩
      · cases e
    · cases e
end
section
variable {X : Cx} {mu : List Md} {a ke ve : Expr} {f1 fk fv : DE} {pos p : Pos} {m : Md}
/-- dict(xs), xs a new list of pairs with keys of their own -/
theorem ev_dictP (hcalm : X.calm = true) (hg : Gl X "dict") (hm : X.mg "dict" = none) (hb : m ≠ .bag) (ha : EV X mu a (.val (.own m)) f1) (he : starEach [a] X.env = (false, eval a X.env) :: starEach [] X.env := by rfl) (hpl : (backTo pos (starEach [] X.env)).any (·.1) = false := by rfl) :
    EV X mu (.Call (.Name "dict" p) [a] [] pos) (.val (.own m)) (dOp (sem1 fDictP) (dCons f1 dNil)) :=
  ev_callTy (call_dictP hcalm) (by
    intro b O H A vs ds d Q ob ⟨vb, hb'⟩ dm nb nd hr hs q
    cases hr with
    | cons h1 t =>
      cases t
      replace hs : fDictP _ = some d := hs
      unfold fDictP at hs
      split at hs
      · rename_i ds
        cases e : pairsOf ds with
        | none => rw [e] at hs; cases hs
        | some ps =>
          rw [e] at hs; cases hs
          have h1' : Ow X.K b _ H (.own m) _ (.lst ds) _ := h1
          cases h1' with
          | @lstO _ a vs0 _ A' hm oa ha t =>
            obtain ⟨ads, kvs, xs, q1, q2, q3, q4, q5⟩ := pairs_own t e
            subst q1
            refine ⟨a, ads, kvs, rfl, .inl (.inl ha), q2, fun p hp => ?_⟩
            rw [mergeK_new kvs [] q5 fun _ _ => rfl, List.nil_append]
            rw [List.append_nil] at nd nb dm q3 t oa
            have mem : ∀ {c}, c ∈ A' → c ∈ a :: A' := fun z => List.mem_cons_of_mem _ z
            -- the list itself is nobody's any more
            have hd : ∀ c, c ∈ A' → H c ≠ none := fun c z => dm c (.inr (mem z))
            have t3 : OwL X.K b (orA O (p :: A')) (upd H p (.dK kvs)) m (kvs.map (·.2)) xs A' := by
              have nbA : b ∉ A' := fun z => nb (mem z)
              have t1 : OwL X.K b (orA O A') H m (kvs.map (·.2)) xs A' := (Ow.shrink (fun c z => z.elim .inl fun z => .inr (mem z))).2 q3 fun c z => .inr z
              exact t1.grow (.inl ob) hb' (grow_upd hp) nbA fun c n => ⟨fun z => z.elim .inl fun z => (List.mem_cons.mp z).elim (fun e => absurd (e ▸ hp) n) .inr, fun z => z.elim .inl fun z => .inr (List.mem_cons_of_mem _ z)⟩
            refine q _ _ (p :: A') (grow_upd hp) (fun c z => ?_) ?_ (by
              show Ow X.K b (orA O (p :: A')) _ (.own m) (.ref p) (.dic ps) (p :: A')
              rw [← q4]
              exact .dkO hm (.inr List.mem_cons_self) upd_same t3)
            · rcases List.mem_cons.mp z with e | z
              · rw [e]; exact .inr hp
              · exact .inl (by rw [List.append_nil]; exact mem z)
            · exact List.nodup_cons.mpr ⟨fun z => hd p z hp, (List.nodup_cons.mp nd).2⟩
      · cases hs
      ) hg hm (by decide +kernel) (av_cons ha av_nil he) (by decide) (by decide) he hpl
/-- {k: v} -/
def dDisp (fk fv : DE) : DE := fun G B => (fk G B).bind fun k => (fv G k.2).bind fun p => if (kOf k.1).isSome = true then some (.dic [(k.1, p.1)], p.2) else none
theorem ev_disp1 {k : Option Expr} {dpos : Pos} (hb : m ≠ .bag) (hk : EV X mu ke fz fk) (hv : EV X mu ve (.val m) fv) : EV X mu (.Dict [some ke] [ve] dpos) (.val (.own m)) (dDisp fk fv) :=
  pe_imp (pe_disp (pps_cons hk hv pps_nil) rfl rfl (by simp) (by simp)) fun σ H Q ⟨g, O, G, B, d, B', F, hb', e, q⟩ p hp => by
    unfold dDisp at e
    cases e1 : fk G B with
    | none => rw [e1] at e; cases e
    | some p1 =>
      obtain ⟨dk, B1⟩ := p1
      rw [e1, Option.bind_some] at e
      cases e2 : fv G B1 with
      | none => rw [e2] at e; cases e
      | some p2 =>
        obtain ⟨dv, B2⟩ := p2
        simp only [e2, Option.bind_some] at e
        split at e <;> cases e
        rename_i hks
        obtain ⟨k0, ek⟩ : ∃ k0, kOf dk = some k0 := Option.isSome_iff_exists.mp hks
        obtain rfl := kOf_inv ek
        have npb : p ≠ g.b := fun z => hb'.ne (z ▸ hp)
        have npl : p ≠ g.l := fun z => by rw [z, hb'.cells] at hp; cases hp
        have x0 : Ext g.b H (upd H p (.dK [])) := fun a o _ h => grow_upd hp a o h
        have b0 : BagAt g.b g.l (upd H p (.dK [])) B := hb'.upd npb npl (fun _ z => by rw [hp] at z; cases z)
        have F0 : Fr X.K g (orA O [p]) mu G σ (upd H p (.dK [])) := F.step hb' x0 (fun a z => by rw [List.mem_singleton.mp z]; exact hp) (fun a z => by rw [List.mem_singleton.mp z, upd_same]; simp) b0.ne
        refine ⟨g, _, G, B, kD k0, B1, F0, b0, e1, fun y H1 A1 G1 => ?_⟩
        have ey : y = kV k0 := Ow.key (G1.rw_ : Ow X.K g.b _ H1 .frz y (kD k0) A1)
        have F1 := F0.step0 b0 G1.ext G1.bag
        refine ⟨g, _, G, B1, dv, _, F1, G1.bag, e2, fun z H2 A2 G2 => ?_⟩
        have hp1 : H1 p = some (.dK []) := G1.ext _ _ npb upd_same
        have hp2 : H2 p = some (.dK []) := G2.ext _ _ npb hp1
        refine ⟨hp2, [(k0, z)], by rw [ey]; rfl, by simp, ?_⟩
        have npA : p ∉ A2 := fun z => by have := G2.fresh _ z; rw [hp1] at this; cases this
        have hoff : Off (orA (orA O [p]) A2) p H2 (upd H2 p (.dK [(k0, z)])) := off_upd (.inl (.inr List.mem_cons_self)) hp2 (fun _ z => by cases z) fun _ _ z => by cases z
        have eO : orA (orA O [p]) A2 = orA O (p :: A2) := by
          funext a
          simp only [orA, List.mem_cons, List.mem_append, or_assoc, List.not_mem_nil, false_or]
        have hz : Ow X.K g.b (orA O (p :: A2)) (upd H2 p (.dK [(k0, z)])) m z dv A2 := by
          have h2 : Ow X.K g.b _ H2 m z dv A2 := G2.rw_
          rw [← eO]
          exact (Ow.off hoff fun _ _ => Iff.rfl).1 h2 npA
        have xx : ∀ a o, a ≠ g.b → H a = some o → a ≠ p := fun a o _ h z => by rw [z, hp] at h; cases h
        refine q (.ref p) _ (p :: A2) ⟨fun a o n h => ?_, fun a z => ?_, List.nodup_cons.mpr ⟨npA, G2.nd⟩, G2.bag.upd npb npl (fun _ z => by rw [hp2] at z; cases z), ?_⟩
        · show upd H2 p _ a = some o
          rw [upd_ne (xx a o n h)]
          exact G2.ext a o n (G1.ext a o n (x0 a o n h))
        · rcases List.mem_cons.mp z with e | z
          · rw [e]; exact hp
          · cases h : H a with
            | none => rfl
            | some o =>
              by_cases e : a = g.b
              · have := G2.fresh a z
                exact (G1.bag.ne (e ▸ this)).elim
              · have := G2.fresh a z
                rw [G1.ext a o e (x0 a o e h)] at this; cases this
        · have r : Ow X.K g.b (orA O (p :: A2)) (upd H2 p (.dK [(k0, z)])) (.own m) (.ref p) (.dic ((([(k0, z)] : List (Key × V)).map fun p => kD p.1).zip [dv])) (p :: (A2 ++ [])) := .dkO hb (.inr List.mem_cons_self) upd_same (.cons hz .nil)
          rw [List.append_nil] at r
          exact r
/-- {} -/
theorem ev_disp0 {dpos : Pos} (hb : m ≠ .bag) : EV X mu (.Dict [] [] dpos) (.val (.own m)) (fun _ B => some (.dic [], B)) :=
  pe_imp pe_dnewK fun σ H Q ⟨g, O, G, B, d, B', F, hb', e, q⟩ p hp => by
    cases e
    have npb : p ≠ g.b := fun z => hb'.ne (z ▸ hp)
    have npl : p ≠ g.l := fun z => by rw [z, hb'.cells] at hp; cases hp
    refine q (.ref p) _ [p] ⟨fun a o _ h => grow_upd hp a o h, (fun a z => by rw [List.mem_singleton.mp z]; exact hp), by simp, hb'.upd npb npl (fun _ z => by rw [hp] at z; cases z), ?_⟩
    exact (.dkO (es := []) (ds := []) hb (.inr List.mem_cons_self) upd_same .nil : Ow X.K g.b (orA O [p]) (upd H p (.dK [])) (.own m) (.ref p) (.dic []) [p])
end
end Xa
/-! XC1: the law's end. -/
namespace Xa
open PySem PySem.Spec
open PyProof.Rows L2
/-- the law's own promise -/
def spL (K : PySem.W.Frag) (n : Nat) : List V → Hp → VK → Prop := fun vs H Q => ∃ (a : Addr) (ns : List Int), vs = [.ref a] ∧ SqL K H a (ns.map V.int) ∧ ns.length ≤ n ∧ ∀ H', Q (.bl true) H'
section
variable {P : Program} {w : World} {K : PySem.W.Frag} {mg mb : Str → Option Value} {k n : Nat} {fa a : Addr} {fd : FuncData} {x : Str} {t : Shared} {us : List Value} {ns : List Int}
/-- what the caller wants to see -/
abbrev Seen (t : Shared) (r : Result) (s' : Shared) : Prop := r = .ok (.ret (.bool true)) ∧ OldK t.heap s'.heap ∧ s'.os = t.os ∧ AllBare s'.gens
theorem law_core (kx : K.In t.heap) (hns : t.heap.Ns mainGlobals mg) (hb : t.heap.Ns builtinsNs mb) (hbb : ∀ x : Str, x ≠ "__name__" → mb x = bootBuiltins x) (hlim : t.heap.NoLimit) (hg : t.gens = #[])
    (ha : t.heap.get? a = some { cls := .type "list", data := .seq us.toArray }) (hl : ns.length ≤ n) (hr : Room k callerA)
    (F : ∀ base : Heap, K.In base → base.Ns mainGlobals mg → FnG P w K mg base k fa fd [x] (spL K n)) (hbind : ∀ (s : Shared) (u : Value), BindsTo s fd ⟨[u], []⟩ [(x, u)])
    (H : Hp) (hO : Only H) (hS : SqL K H a (ns.map V.int)) (hok : HOk P w H t.heap) (hA : ∀ b, H b ≠ none → b = a) (hK : H a ≠ none → K.lookup a = none) :
    codeAny (model P w) callerA (.call (.ref fa) ⟨[.ref a], []⟩) (Seen t) t := by
  -- what the heap hides nothing of
  have atN : ∀ {b : Addr} {o : Obj}, H b = none → t.heap.get? b = some o → (hidT t.heap H).get? b = some o := fun z e => hidT_get e z
  have hK0 : K.In (hidT t.heap H) := by
    intro b o e
    refine atN ?_ (kx b o e)
    cases q : H b with
    | none => rfl
    | some u =>
      have hba : b = a := hA b (by simp [q])
      rw [hba] at q e
      exact absurd e (by rw [hK (by simp [q])]; simp)
  have dictN : ∀ {b : Addr} {o : Obj} {es : Array DictEntry} {ep : Nat}, o.data = .dict es ep → t.heap.get? b = some o → H b = none := by
    intro b o es ep d e
    cases q : H b with
    | none => rfl
    | some u =>
      have hba : b = a := hA b (by simp [q])
      rw [hba, ha] at e
      obtain rfl := Option.some.inj e
      exact nomatch (show Data.seq us.toArray _ = Data.dict es ep from d)
  have nsN : ∀ {b : Addr} {m : Str → Option Value}, t.heap.Ns b m → (hidT t.heap H).Ns b m := by
    rintro b m ⟨o, es, ep, e, d, r⟩
    exact ⟨o, es, ep, atN (dictN d e) e, d, r⟩
  have lim : (hidT t.heap H).NoLimit := by
    obtain ⟨mc, h1, h2⟩ := hlim
    exact ⟨mc, nsN h1, h2⟩
  have en : Env0 P w K mg (hidT t.heap H) callerA [] t H := ⟨rfl, ⟨hK0, nsN hns, ⟨mb, nsN hb, hbb⟩, lim⟩, fun b o e => of_hidT e, Nat.le_of_eq (hidT_size _ _), trivial, fun b hb => (nomatch (show b ∈ ([] : List Addr) from hb)), hok, .of_eq hg⟩
  refine codeAny_mono ((F _ hK0 (nsN hns)).run callerA [] t H ⟨[.ref a], []⟩ [.ref a] [.ref a] (fun v _ => v = .bl true) hr rfl en (hbind t (.ref a)) (.cons rfl .nil) ⟨a, ns, rfl, hS, hl, fun _ => rfl⟩) fun r s' h => ?_
  match r, h with
  | .ok (.ret u), ⟨v, H', os, bare, un, hok', rv, q⟩ =>
    have q : v = .bl true := q
    subst q
    have eu : u = Value.bool true := rv
    subst eu
    refine ⟨rfl, OldK.of_keep fun b o e => ?_, os, bare⟩; rcases hO b with z | ⟨ob, xs, z⟩
    · exact un.keep b o e z (fun y => nomatch (show b ∈ ([] : List Addr) from y)) (by simp)
    · have e1 := (hok b _ z).1
      have e2 := (hok' b _ (un.frzs b ob _ z)).1
      rw [e] at e1
      rw [← Option.some.inj e1] at e2
      exact e2
/-- from the heap behind the top -/
theorem law_callG (kx : K.In t.heap) (hns : t.heap.Ns mainGlobals mg) (hb : t.heap.Ns builtinsNs mb) (hbb : ∀ x : Str, x ≠ "__name__" → mb x = bootBuiltins x) (hlim : t.heap.NoLimit) (hg : t.gens = #[])
    (ha : t.heap.get? a = some { cls := .type "list", data := .seq us.toArray }) (hi : IntsAre us ns) (hl : ns.length ≤ n) (hz : n ≤ sizeLine) (hr : Room k callerA)
    (F : ∀ base : Heap, K.In base → base.Ns mainGlobals mg → FnG P w K mg base k fa fd [x] (spL K n)) (hbind : ∀ (s : Shared) (u : Value), BindsTo s fd ⟨[u], []⟩ [(x, u)]) :
    codeAny (model P w) callerA (.call (.ref fa) ⟨[.ref a], []⟩) (Seen t) t := by
  have rv := vals_ints hi
  have eL := hi.length
  have hz' : ns.length ≤ sizeLine := Nat.le_trans hl hz
  cases hk : K.lookup a with
  | some o =>
    have e : o = { cls := .type "list", data := .seq us.toArray } := Option.some.inj ((kx a o hk).symm.trans ha)
    subst e
    refine law_core kx hns hb hbb hlim hg ha hl hr F hbind (fun _ => none) (fun _ => .inl rfl) ?_ (fun b u z => nomatch (show (none : Option HO) = some u from z)) (fun b z => absurd rfl z) (fun z => absurd rfl z)
    exact .inr ⟨_, us.toArray, _, hk, rfl, rfl, rfl, by rw [List.size_toArray, eL]; exact hz', by simpa using rv⟩
  | none =>
    let H : Hp := fun b => if b = a then some (.frz { cls := .type "list", data := .seq us.toArray } (.lst (ns.map V.int))) else none
    have Ha : H a = some (.frz { cls := .type "list", data := .seq us.toArray } (.lst (ns.map V.int))) := if_pos rfl
    have Hn : ∀ {b}, b ≠ a → H b = none := fun n => if_neg n
    refine law_core kx hns hb hbb hlim hg ha hl hr F hbind H (fun b => ?_) (.inl (.inr ⟨_, Ha⟩)) (fun b u z => ?_) (fun b z => ?_) (fun _ => hk)
    · by_cases e : b = a
      · rw [e]; exact .inr ⟨_, _, Ha⟩
      · exact .inl (Hn e)
    · by_cases e : b = a
      · rw [e] at z ⊢
        obtain rfl := Option.some.inj (Ha.symm.trans z)
        exact ⟨ha, by rw [List.length_map]; exact hz', us, _, rv, ha⟩
      · rw [Hn e] at z; cases z
    · by_cases e : b = a
      · exact e
      · exact absurd (Hn e) z
end
/-- the goal that k_head leaves -/
theorem walk_G {l : PySem.W.OpenLaw} {n k : Nat} {q : Program} {loose : List Str} {XP : (Str → Option Value) → Heap → Prop} {YP : World → Heap → Prop} {d : DefRec} {K : Params → PySem.W.Frag} {x : Str}
    (hn : l.most = some n) (hz : n ≤ sizeLine) (hdf : d.params.defaults = []) (hr : Room k callerA) (hY : ∀ (w : World) (h : Heap), YP w h → (K w.params).In h) (F : ∀ (w : World) (mg : Str → Option Value) (fa : Addr) (h : Heap), (K w.params).In h → h.Ns mainGlobals mg → mg d.name = some (.ref fa) →
      ∃ fd : FuncData, (∀ (s : Shared) (u : Value), BindsTo s fd ⟨[u], []⟩ [(x, u)]) ∧ ∀ base : Heap, (K w.params).In base → base.Ns mainGlobals mg → FnG l.prog w (K w.params) mg base k fa fd [x] (spL (K w.params) n)) : PySem.W.WalkO q loose XP YP l.row.toRowW d [] (fun f vs => PySem.call f vs) :=
  Att.attach_call hn hdf fun w s₀ t mg mb fa o pm cd doc a us ns G Y ho hd hcd hmg hobj hints hlen hg =>
    let ⟨fd, hb, hF⟩ := F w mg fa _ (hY w _ Y) G.T.g hmg
    law_callG (hY w _ Y) G.T.g G.T.b G.T.builtins G.T.nolimit hg hobj hints hlen hz hr hF hb
end Xa
/-! XC2: the law's bag; the law's def. -/
namespace Xa
open PySem PySem.Spec
open PyProof.Rows L2
def absI (i : Int) : Int := if i < 0 then -i else i
def bag0 (ns : List Int) : Bag := ⟨0, 1234567891, 0, ns.map absI, none⟩
/-- what the def that makes the bag is worth -/
def spB (K : PySem.W.Frag) : List V → Hp → VK → Prop := fun vs H Q => ∃ (a : Addr) (ns : List Int), vs = [.ref a] ∧ SqL K H a (ns.map V.int) ∧ ns.length ≤ 63 ∧
  ∀ H' b l, Grow H H' → H b = none → H l = none → l ≠ b → BagAt b l H' (bag0 ns) → Q (.ref b) H'
def rAbs : List V → Hp → VK → Prop := fun xs H Q => ∃ i, xs = [.int i] ∧ Q (.int (if i < 0 then -i else i)) H
abbrev tBagE (K : PySem.W.Frag) : TE := tLst (tCons (tC (.int 0)) (tCons (tC (.int 1234567891)) (tCons (tC (.int 0)) (tCons (tLc (iList K (tSl (rSlL K) (tVar 0) tNoPart (tPart (tC (.int 63))))) (gName 1) tYes (tCB rAbs (tCons (tVar 1) tNil)) [1]) tNil))))
theorem cut63 {xs : List V} (h : xs.length ≤ 63) : cutV xs none (some 63) = xs := by
  unfold cutV
  rw [HT.sIx_none]
  rw [show HT.sIx xs.length xs.length (some 63) = min 63 xs.length from HT.sIx_nat xs.length _ 63, Nat.min_eq_right h]
  simp
theorem bag_imp {K : PySem.W.Frag} {a : Addr} {ns : List Int} {H : Hp} {Q : VK} (hS : SqL K H a (ns.map V.int)) (hl : ns.length ≤ 63) (q : ∀ H' b l, Grow H H' → H b = none → H l = none → l ≠ b → BagAt b l H' (bag0 ns) → Q (.ref b) H') :
    tBagE K [some (.ref a), none] H Q := by
  refine ⟨.ref a, rfl, 63, rfl, a, ns.map V.int, rfl, hS, fun c hc => ?_⟩
  rw [cut63 (by simpa using hl)]
  have g1 : Grow H (upd H c (.lst (ns.map V.int))) := grow_upd hc
  refine ⟨c, rfl, ⟨_, .inl (.inl upd_same)⟩, fun L hL => ?_⟩
  have ncL : c ≠ L := fun z => by rw [← z, upd_same] at hL; cases hL
  have hL0 : H L = none := by rw [upd_ne (Ne.symm ncL)] at hL; exact hL
  refine lc_list (K := K) (a := c) (xs := ns.map V.int) (fun i H' => H' = upd (upd H c (.lst (ns.map V.int))) L (.lst (((ns.map absI).take i).map V.int))) rfl (fun i H' _ e => ?_) (fun i x H' e eH => ?_) fun H' e => ?_
  · rw [e]
    exact .inl (.inl (by rw [upd_ne ncL]; exact upd_same))
  · rw [List.getElem?_map] at e
    cases e2 : ns[i]? with
    | none => rw [e2] at e; cases e
    | some j =>
      rw [e2] at e
      cases e
      subst eH
      have z63 : 63 < sizeLine := by rw [sizeLine_eq]; decide
      refine ⟨rfl, .int j, rfl, j, rfl, _, upd_same, Nat.lt_of_le_of_lt (by rw [List.length_map, List.length_take, List.length_map]; omega) z63, ?_⟩
      rw [upd_upd, List.take_add_one, List.getElem?_map, e2, List.map_append]
      rfl
  · subst e
    rw [List.length_map, List.take_of_length_le (by simp)]
    refine ⟨by rw [sizeLine_eq]; simp, fun b hb => ?_⟩
    have nbL : b ≠ L := fun z => by rw [z, upd_same] at hb; cases hb
    rw [upd_ne nbL] at hb
    have nbc : b ≠ c := fun z => by rw [z, upd_same] at hb; cases hb
    rw [upd_ne nbc] at hb
    refine q _ b L (fun x o e => ?_) hb hL0 (Ne.symm nbL) ⟨⟨_, upd_same, .law (B := bag0 ns) rfl⟩, ?_⟩
    · rw [upd_ne (fun z => by rw [z, hb] at e; cases e), upd_ne (fun z => by rw [z, hL0] at e; cases e)]
      exact g1 x o e
    · rw [upd_ne (Ne.symm nbL), upd_same]; rfl
section
variable {P : Program}
variable {w : World}
variable {K : PySem.W.Frag}
variable {mg : Str → Option Value}
variable {base : Heap}
theorem fng_bag {x qual s c : Str} {st : Stmt} {f : Addr} {fd : FuncData} (F : Fun K x qual st f fd) (S : FnScope [s, c] [s] (defScope st))
    (h : ∀ (cdv : Value) (A : Around) (outer : List Env) (t : Shared) (H : Hp), PSs (cxOf CX0 P w K mg base [s, c] qual (defScope st) f cdv A outer t H E0).nox (defBody st) (tRet (tBagE K))) : FnG P w K mg base 1 f fd [s] (spB K) :=
  fng_of F S (fun vs H Q ⟨a, ns, e, _⟩ => by rw [e]; rfl) fun cdv A outer t H vs Q hr hG ⟨a, ns, e, hS, hl, q⟩ => ⟨_, h cdv A outer t H, by subst e; exact bag_imp hS hl q⟩
/-- the law's def: the bag first, the rest over data -/
def gamL (n : Nat) : Gam := none :: some .non :: List.replicate (n - 2) none
theorem fng_law {x qual s : Str} {st first : Stmt} {rest : List Stmt} {f : Addr} {fd : FuncData} {N : List Str} {k n : Nat} {mu : List Md} {body : DS} (F : Fun K x qual st f fd) (S : FnScope N [s] (defScope st)) (hn : N.length = n) (hN : 2 ≤ n) (hmu : mu[1]? = some .bag) (hB : defBody st = first :: rest)
    (h1 : ∀ (cdv : Value) (A : Around) (outer : List Env) (t : Shared) (H : Hp), Room k (A.deeper (envOfC qual (defScope st) t.heap.objs.size f cdv)) → A.guards = some [] → PS (cxOf CX0 P w K mg base N qual (defScope st) f cdv A outer t H E0).nox first (tAsg (tCallG (spB K) (tCons (tVar 0) tNil)) (gName 1)))
    (h2 : ∀ (cdv : Value) (A : Around) (outer : List Env) (t : Shared) (H : Hp), Room k (A.deeper (envOfC qual (defScope st) t.heap.objs.size f cdv)) → A.guards = some [] → ESs (cxOf CX0 P w K mg base N qual (defScope st) f cdv A outer t H E0).nox mu fz rest body)
    (hv : ∀ ns : List Int, ns.length ≤ 63 → ∃ B', body (gamL n) (bag0 ns) = some (.rt (.bl true) B')) : FnG P w K mg base (k + 1) f fd [s] (spL K 63) := by
  subst hn
  exact fng_of F S (fun vs H Q ⟨a, ns, e, _⟩ => by rw [e]; rfl) fun cdv A outer t H vs Q hr hG ⟨a, ns, e, hS, hl, q⟩ => by
    refine ⟨_, by rw [hB]; exact pss_cons (h1 cdv A outer t H hr hG) (h2 cdv A outer t H hr hG), ?_⟩
    subst e
    obtain ⟨B', hB'⟩ := hv ns hl
    have e0 : (start N [V.ref a])[0]? = some (some (.ref a)) := rfl
    refine ⟨.ref a, e0, a, ns, rfl, hS, hl, fun H' b l gr hb hl0 lb bag => ?_⟩
    refine ⟨⟨b, l, H', fun c => c = b ∨ c = l⟩, fun c => c = b ∨ c = l, gamL N.length, bag0 ns, _, ?_, bag, hB', ?_⟩
    · refine ⟨⟨.inl rfl, .inr rfl, lb, fun c z => ?_⟩, fun _ z => z, fun c z => ?_, fun _ _ _ z => z, ?_, fun _ => [], fun _ => List.nodup_nil, fun _ _ _ a z => (nomatch z), fun _ a z => (nomatch z), fun i d e => ?_⟩
      · show H' c ≠ none
        rcases z with z | z <;> rw [z]
        · exact bag.ne
        · rw [bag.cells]; simp
      · rcases z with z | z <;> rw [z]
        · exact bag.ne
        · rw [bag.cells]; simp
      · unfold gamL L2.start
        simp only [List.length_cons, List.length_replicate, List.length_set, List.length_append, List.length_map, List.length_nil]
        omega
      · match i, e with
        | 0, e => cases e
        | 1, e =>
          cases e
          refine ⟨.bag, .ref b, hmu, ?_, .bag⟩
          rw [List.getElem?_set_self]
          unfold L2.start
          simp only [List.length_cons, List.length_replicate, List.length_append, List.length_map, List.length_nil]
          omega
        | i + 2, e =>
          have e : (List.replicate (N.length - 2) (none : Option D))[i]? = some (some d) := e
          rw [List.getElem?_replicate] at e
          split at e <;> cases e
    · intro v H2 A R
      have e : v = .bl true := by
        have h := R.rw_
        cases h; rfl
      subst e
      exact q H2
end
end Xa
/-! XB13: some more statements. -/
namespace Xa
open PySem PySem.Spec
open PyProof.Rows L2
/-! texts times whole numbers -/
def strRep (z : Str) (k : Nat) : Str := ⟨(List.replicate k z.cps).foldl (· ++ ·) #[]⟩
theorem foldl_app_size (a : Array Nat) : ∀ (n : Nat) (b : Array Nat), ((List.replicate n a).foldl (· ++ ·) b).size = b.size + n * a.size
  | 0, b => by simp
  | n + 1, b => by
    rw [List.replicate_succ, List.foldl_cons, foldl_app_size a n, Array.size_append, Nat.succ_mul]
    omega
theorem strRep_len (z : Str) (n : Nat) : (strRep z n).length = n * z.length := by
  show ((List.replicate n z.cps).foldl (· ++ ·) #[]).size = n * z.cps.size
  rw [foldl_app_size]; simp
def fMul (x y : D) : Option D := match x, y with
  | .int i, .int j => (gMul i j).map .int
  | .str z, .int k => if 2 ≤ k ∧ k < 1000000 ∧ 0 < z.length ∧ z.length * k.toNat ≤ sizeLine ∧ z.length ≤ 1000000 then some (.str (strRep z k.toNat)) else none
  | _, _ => none
section
variable {X : Cx} {mu : List Md} {a b c : Expr} {f1 f2 : DE} {pos : Pos}
theorem op_mulZ : OpR X (binaryOp .Mult) (fun x y H Q => ∃ (z : Str) (k : Int), x = .str z ∧ y = .int k ∧ 2 ≤ k ∧ k < 1000000 ∧ 0 < z.length ∧ z.length * k.toNat ≤ sizeLine ∧ z.length ≤ 1000000 ∧ Q (.str (strRep z k.toNat)) H) := by
  intro pins s σ H x y v u Q I rx ry ⟨z, k, ex, ey, h1, h2, h3, h4, h5, q⟩
  subst ex ey
  obtain ⟨t, rfl⟩ := rx
  obtain ⟨t', rfl⟩ := ry
  have e0 : (k == 1 || z.length == 0) = false := by
    have a1 : (k == 1) = false := beq_eq_false_iff_ne.mpr (by omega)
    have a2 : (z.length == 0) = false := beq_eq_false_iff_ne.mpr (by omega)
    rw [a1, a2]; rfl
  refine PySem.P.mul_str ?_ (fun _ _ => ?_) (fun _ _ => ?_) ?_
  · have a1 : ¬ k < -(2 ^ 63 : Int) := by omega
    have a2 : ¬ k ≥ (2 ^ 63 : Int) := by omega
    rw [decide_eq_false a1]; exact decide_eq_false a2
  · have : (1000000 : Int) ≤ (2 ^ 63 - 1) / k := by
      rw [Int.le_ediv_iff_mul_le (by omega)]
      have : (1000000 : Int) * k ≤ 1000000 * 1000000 := by omega
      omega
    omega
  · unfold Builtin.Str.tooLong
    refine decide_eq_false ?_
    omega
  · rw [if_neg (by omega), e0]
    exact ⟨by rw [show (Str.mk _).length = _ from strRep_len z k.toNat, Nat.mul_comm]; exact h4, .str (strRep z k.toNat), H, I.tok _, ⟨_, rfl⟩, q⟩
theorem ev_mulA (ha : EV X mu a .vw f1) (hb : EV X mu b .vw f2) : EV X mu (.BinOp a .Mult b pos) fz (d2 fMul f1 f2) := ev_bin (OpR.or op_mul op_mulZ) (by
  intro b O H x y dx dy d Q vb ob hb dm hx hy e q
  unfold fMul at e
  split at e
  · rename_i i j
    cases hx.int_inv; cases hy.int_inv
    cases e2 : gMul i j with
    | none => rw [e2] at e; cases e
    | some k =>
      rw [e2] at e; cases e
      unfold gMul at e2
      split at e2 <;> cases e2
      exact .inl ⟨i, j, rfl, rfl, by assumption, q _ _ [] (fun _ _ h => h) (fun a z => nomatch z) List.nodup_nil .int⟩
  · split at e <;> cases e
    rename_i hz
    cases hx.str_inv; cases hy.int_inv
    exact .inr ⟨_, _, rfl, rfl, hz.1, hz.2.1, hz.2.2.1, hz.2.2.2.1, hz.2.2.2.2, q _ _ [] (fun _ _ h => h) (fun a z => nomatch z) List.nodup_nil .str⟩
  · cases e) ha hb
end
section
variable {X : Cx} {mu : List Md} {rm : Rm} {e c a b : Expr} {es : List Expr} {f f1 f2 : DE} {fs : DA} {pos pt p2 px py pz : Pos}
/-- a, b = a new list of so many -/
def sUnpackL (is : List Nat) (f : DE) : DS := fun G B => (f G B).bind fun p => match p.1 with
  | .lst ds => if ds.length = is.length then some (.nx (setG G is ds) p.2) else none
  | _ => none
theorem es_unpackL {is : List Nat} {ts : List Expr} {k : _} (he : EV X mu e fz f) (hc : X.calm = true) (hg : PGs X ts (gNames is)) (hm : is.map (fun i => mu[i]?) = (List.replicate is.length Md.frz).map some) (hn : (assignEach ts X.env).length = is.length := by rfl) (hst : (assignEach ts X.env).findIdx? (·.1) = none := by rfl)
    (hs : swapsWithSole [.Tuple ts k pt] e pos.line X.env = pure false := by rfl) (hw : swappedStores [.Tuple ts k pt] e X.env = pure none := by rfl) (h1 : (assignEach [.Tuple ts k pt] X.env).map (·.2) = [assign (.Tuple ts k pt) X.env] := by rfl) :
    ES X mu rm (.Assign [.Tuple ts k pt] e pos) (sUnpackL is f) := ps_imp (ps_asg he (pg_unl hc hg hn hst) hs hw h1) fun D1 σ H ⟨g, O, G, B, oc, F, hb, e, q⟩ => by
  unfold sUnpackL at e
  cases e1 : f G B with
  | none => rw [e1] at e; cases e
  | some p =>
    obtain ⟨d, B1⟩ := p
    rw [e1, Option.bind_some] at e
    cases d with
    | lst ds =>
      simp only at e
      split at e <;> cases e
      rename_i hl
      refine ⟨g, O, G, B, .lst ds, _, F, hb, e1, fun v H' A Gt => ?_⟩
      obtain ⟨As, FA⟩ := F.told
      have FA1 := FA.step hb Gt.ext Gt.fresh (fun a z => (Gt.rw_.dom a z).2) Gt.bag.ne
      have hr : Ow X.K g.b (orA O A) H' .frz v (.lst ds) A := Gt.rw_
      have hA := Ow.noA.1 hr (.inr (.inl rfl))
      subst hA
      obtain ⟨a, vs, rfl, n, hq, t⟩ := hr.lstF_inv
      obtain ⟨At, F2⟩ := FA1.puts is t.rwl List.nodup_nil (fun j a z => nomatch z) (fun a z => nomatch z) (by rw [hl]; exact hm)
      refine ⟨a, vs, rfl, .inl hq, by rw [t.len, hl], gNames_of (by rw [t.len, hl]) ?_⟩
      exact q _ H' _ F2.fr Gt.bag (Gt.sub F hb)
    | _ => cases e
/-- a, b, c = x, y, z (plain locals) -/
theorem es_par3 {i j l : Nat} {x y z : Str} {kt k2 : _} {m1 m2 m3 : Md} (hc : X.calm = true) (hN : X.N.Nodup) (hi : X.N[i]? = some x) (hj : X.N[j]? = some y) (hl : X.N[l]? = some z) (hij : i ≠ j) (hil : i ≠ l) (hjl : j ≠ l) (hx : X.env.scope.names.lookup x = some .local) (hy : X.env.scope.names.lookup y = some .local) (hz : X.env.scope.names.lookup z = some .local)
    (ha : AV X mu [a, b, c] [.val m1, .val m2, .val m3] fs) (hm : [i, j, l].map (fun i => mu[i]?) = [some m1, some m2, some m3]) (hw : swappedStores [.Tuple [.Name x px, .Name y py, .Name z pz] kt pt] (.Tuple [a, b, c] k2 p2) X.env = pure (some [x, y, z]))
    (hs : swapsWithSole [.Tuple [.Name x px, .Name y py, .Name z pz] kt pt] (.Tuple [a, b, c] k2 p2) pos.line X.env = pure false := by rfl) :
    ES X mu rm (.Assign [.Tuple [.Name x px, .Name y py, .Name z pz] kt pt] (.Tuple [a, b, c] k2 p2) pos) (sSets [i, j, l] fs) := ps_imp (ps_par3 hc hN hi hj hl hij hil hjl hx hy hz ha hw hs) fun D σ H h => by
  obtain ⟨g, O, G, B, ds, B', F, hb, e, q⟩ := sets_imp (ms := [m1, m2, m3]) hm D σ H h
  refine ⟨g, O, G, B, ds, B', F, hb, e, fun vs H' A Gt => ?_⟩
  have hv := q vs H' A Gt
  cases Gt.rw_ with
  | cons h1 t => cases t with | cons h2 t => cases t with | cons h3 t => cases t; exact ⟨_, _, _, rfl, hv⟩
/-- return x: an own thing is given up -/
theorem es_retO {i : Nat} {x : Str} {m : Md} {py : Pos} (hp : PE X (.Name x py) (tVar i)) (hm : mu[i]? = some m) (hb0 : m ≠ .bag := by decide) : ES X mu fz (.Return (some (.Name x py)) pos) (sRet (dVar i)) := ps_imp (ps_ret hp) fun D σ H ⟨g, O, G, B, oc, F, hb, e, q⟩ => by
  unfold sRet dVar at e
  cases e2 : gat G i with
  | none => simp [e2] at e
  | some d0 =>
    simp only [e2, Option.map_some, Option.some.injEq] at e
    subst e
    obtain ⟨As, FA⟩ := F.told
    obtain ⟨m', v, h1, h2, h3⟩ := FA.sl i d0 (gat_some e2)
    rw [hm] at h1; cases h1
    refine ⟨v, h2, q v H [] ⟨FA.ext0, (fun a z => nomatch z), List.nodup_nil, hb, ?_⟩⟩
    exact (Ow.freeze fun a z => z.elim (FA.sub a) fun m => nomatch m).1 h3 hb0 fun a z y => y.elim (FA.ss i a z).2.1 fun m => nomatch m
end
/-! while, however long -/
theorem whileGo_more {u : DT} {bd : DS} : ∀ {n : Nat} {G : Gam} {B : Bag} {r : Oc}, whileGo u bd n G B = some r → whileGo u bd (n + 1) G B = some r
  | 0, G, B, r, h => by cases h
  | n + 1, G, B, r, h => by
    unfold whileGo at h ⊢
    cases e1 : u G B with
    | none => rw [e1] at h; cases h
    | some c =>
      rw [e1] at h
      simp only [Option.bind_some] at h ⊢
      split at h
      · rename_i hc
        rw [if_pos hc]
        cases e2 : bd G c.2 with
        | none => rw [e2] at h; cases h
        | some o =>
          rw [e2] at h
          simp only [Option.bind_some] at h ⊢
          cases o with
          | nx G' B' => exact whileGo_more (n := n) h
          | ct G' B' => exact whileGo_more (n := n) h
          | bk G' B' => exact h
          | rt d B' => exact h
      · rename_i hc
        rw [if_neg hc]; exact h
theorem whileGo_le {u : DT} {bd : DS} {n m : Nat} {G : Gam} {B : Bag} {r : Oc} (h : whileGo u bd n G B = some r) (hnm : n ≤ m) : whileGo u bd m G B = some r := by
  induction hnm with
  | refl => exact h
  | step _ ih => exact whileGo_more ih
open Classical in
noncomputable def sWhile (u : DT) (bd : DS) : DS := fun G B => if h : ∃ n r, whileGo u bd n G B = some r then whileGo u bd h.choose G B else none
theorem sWhile_eq {u : DT} {bd : DS} {n : Nat} {G : Gam} {B : Bag} {r : Oc} (h : whileGo u bd n G B = some r) : sWhile u bd G B = some r := by
  have hx : ∃ n r, whileGo u bd n G B = some r := ⟨n, r, h⟩
  unfold sWhile
  rw [dif_pos hx]
  obtain ⟨r', h'⟩ := hx.choose_spec
  rcases Nat.le_total n hx.choose with z | z
  · exact whileGo_le h z
  · have := whileGo_le h' z
    rw [h] at this; cases this
    exact h'
theorem sWhile_get {u : DT} {bd : DS} {G : Gam} {B : Bag} {r : Oc} (h : sWhile u bd G B = some r) : ∃ n, whileGo u bd n G B = some r := by
  unfold sWhile at h
  split at h
  · exact ⟨_, h⟩
  · cases h
section
variable {X : Cx} {mu : List Md} {rm : Rm} {c : Expr} {body : List Stmt} {u : DT} {bd : DS} {pos : Pos}
theorem es_whileE (hp : PassesOwn (model X.prog X.w) X.A X.env X.xe) (hc : ET X mu c u) (hb : ESs X mu rm body bd) : ES X mu rm (.While c body [] pos) (sWhile u bd) := ps_imp (ps_while hp hc hb) fun D σ H ⟨g, O, G, B, oc, F, hb, e, q⟩ =>
  let ⟨n, e'⟩ := sWhile_get e
  while_imp (n := n) D σ H ⟨g, O, G, B, oc, F, hb, e', q⟩
end
end Xa
/-! XB14: what the derivations call upon. -/
namespace Xa
open PySem PySem.Spec
open PyProof.Rows L2
theorem rm1 {k : Nat} {A : Around} (r : Room k A) : A.units + 1 < cLine := by have := r.un; omega
theorem rm64 {k : Nat} {A : Around} (r : Room k A) : A.units + 64 < cLine := by have := r.un; omega
theorem rm65 {k : Nat} {A : Around} (r : Room k A) : A.units + 65 < cLine := by have := r.un; omega
theorem rm66 {k : Nat} {A : Around} (r : Room k A) : A.units + 66 < cLine := by have := r.un; omega
def dOwn (i : Nat) : DE := fun G B => (gat G i).bind fun d => match d with | .lst _ => some (d, B) | .dic _ => some (d, B) | _ => none
section
variable {X : Cx} {mu : List Md} {rm : Rm} {i : Nat} {x : Str} {a : Expr} {f1 : DE} {pos p2 : Pos}
theorem ev_ownV {m : Md} (hp : PE X (.Name x pos) (tVar i)) (hm : mu[i]? = some (.own m)) (k : m = .imm ∨ m = .frz := by decide) : EV X mu (.Name x pos) .vw (dOwn i) := ev_own hp hm k
theorem ev_sliceV {lo hi : Option Expr} {ul uh : DP} (hf : ∀ G B d B', f1 G B = some (d, B') → ∀ ds, d ≠ .tup ds) (ha : EV X mu a .vw f1) (hl : EP' X mu lo ul) (hh : EP' X mu hi uh) : EV X mu (.Subscript a (.Slice lo hi none p2) pos) fz (dCut f1 ul uh) :=
  pe_imp (pe_slice sl_all ha hl hh) fun σ H Q => slice_imp (.inr rfl) f1 (fun _ => hf) σ H Q
theorem bagL_nt {i : Nat} : ∀ G B d B', dBagL i G B = some (d, B') → ∀ ds, d ≠ .tup ds := by
  intro G B d B' e ds h
  unfold dBagL at e
  obtain ⟨_, e⟩ := onLaw_inv e
  cases e1 : gat G i with
  | none => rw [e1] at e; cases e
  | some z => rw [e1] at e; cases e; cases h
theorem own_nt {i : Nat} : ∀ G B d B', dOwn i G B = some (d, B') → ∀ ds, d ≠ .tup ds := by
  intro G B d B' e ds h
  subst h
  unfold dOwn at e
  cases e1 : gat G i with
  | none => rw [e1] at e; cases e
  | some z =>
    rw [e1, Option.bind_some] at e
    split at e <;> cases e
end
/-- a def known by name, and what it is worth -/
structure Known (P : Program) (w : World) (K : PySem.W.Frag) (mg : Str → Option Value) (base : Heap) (k : Nat) (x : Str) (ps : List Str) (ms : List Md) (m : Md) (FF : FD) : Prop where
  ex : ∃ f fd, FnG P w K mg base k f fd ps (spD K ms m FF) ∧ mg x = some (.ref f) ∧ PySem.W.keepIn K (.ref f) = true ∧ Binds K fd ps []
theorem Known.mk' {P : Program} {w : World} {K : PySem.W.Frag} {mg : Str → Option Value} {base : Heap} {k : Nat} {x qual : Str} {st : Stmt} {f : Addr} {fd : FuncData} {ps : List Str} {ms : List Md} {m : Md} {FF : FD} (F : Fun K x qual st f fd) (g : mg x = some (.ref f)) (b : Binds K fd ps []) (h : FnG P w K mg base k f fd ps (spD K ms m FF)) : Known P w K mg base k x ps ms m FF := ⟨f, fd, h, g, F.kp, b⟩
theorem Known.imp {P : Program} {w : World} {K : PySem.W.Frag} {mg : Str → Option Value} {base : Heap} {k : Nat} {x : Str} {ps : List Str} {ms : List Md} {m : Md} {FF FF' : FD} (D0 : Known P w K mg base k x ps ms m FF) (z : ∀ ds B r, FF' ds B = some r → FF ds B = some r) : Known P w K mg base k x ps ms m FF' :=
  let ⟨f, fd, h, g, kp, b⟩ := D0.ex
  ⟨f, fd, fnD_imp h z, g, kp, b⟩
theorem ev_callD {X : Cx} {mu : List Md} {k j : Nat} {ps : List Str} {ms : List Md} {m : Md} {FF : FD} {x : Str} {p pos : Pos} {e : Expr} {es : List Expr} {fs : DA} (D0 : Known X.prog X.w X.K X.mg X.base k x ps ms m FF) (hr : Room j X.A) (hk : k ≤ j) (hG : X.A.guards = some []) (hms : ∀ m ∈ ms, m = .imm ∨ m = .frz ∨ m = .bag) (hg : Gl X x) (ha : AV X mu (e :: es) (ms.map Rm.val) fs) (hdb : (x == ("__debug__" : Str)) = false := by decide)
    (he : starEach (e :: es) X.env = (false, eval e X.env) :: starEach es X.env := by rfl) (hpl : (backTo pos (starEach es X.env)).any (·.1) = false := by rfl) : EV X mu (.Call (.Name x p) (e :: es) [] pos) (.val m) (dCall FF fs) :=
  let ⟨_, _, h, g, kp, b⟩ := D0.ex
  ev_call h hms (hr.mono hk) hG hg g kp b ha hdb he hpl
end Xa
namespace Xa
open PySem PySem.Spec
open PyProof.Rows L2
section
variable {K : PySem.W.Frag} {mu : List Md}
/-- the targets of a for -/
theorem tgOk_name0 {i : Nat} (hm : mu[i]? = some .frz) : TgOk K mu [i] (gName i) (tgName i) := tgOk_name List.mem_cons_self hm
theorem tgOk_tup0 {is : List Nat} (hm : is.map (fun i => mu[i]?) = (List.replicate is.length Md.frz).map some) : TgOk K mu is (gTup K is.length (gNames is)) (tgTup is) := tgOk_tup (fun _ h => h) hm
end
section
variable {P : Program}
variable {w : World}
variable {K : PySem.W.Frag}
variable {mg : Str → Option Value}
variable {base : Heap}
theorem known_D {x qual : Str} {st : Stmt} {f : Addr} {fd : FuncData} {N ps : List Str} {k n : Nat} {ms mu : List Md} {m : Md} {body : DS} {FF : FD} (hF : FF = runD n body) (F : Fun K x qual st f fd) (g : mg x = some (.ref f)) (b : Binds K fd ps []) (S : FnScope N ps (defScope st)) (hn : N.length = n) (hl : ms.length = ps.length) (hmu : mu.take ms.length = ms) (hm : m ≠ .bag)
    (hb : ∀ (cdv : Value) (A : Around) (outer : List Env) (s : Shared) (H : Hp), Room k (A.deeper (envOfC qual (defScope st) s.heap.objs.size f cdv)) → A.guards = some [] → ESs (cxOf CX0 P w K mg base N qual (defScope st) f cdv A outer s H E0).nox mu (.val m) (defBody st) body) :
    Known P w K mg base (k + 1) x ps ms m FF := by
  subst hF hn
  exact .mk' F g b (fng_D F S hl hmu hm hb)
end
section
variable {X : Cx} {mu : List Md} {a b : Expr} {f1 f2 : DE} {pos : Pos}
theorem et_cmpM {op : CmpOp} {r : R2} {f : D → D → Option D} (ho : OpR X (compareOp op) r) (h : Op2M X r fz f) (ha : EV X mu a fz f1) (hb : EV X mu b .vw f2) (hm : behindInMarks op b = false) : ET X mu (.Compare a [op] [b] pos) (asB (d2 f f1 f2)) := by
  refine pt_imp (pt_cmpR ho ha hb hm) fun σ H Q q => ?_
  obtain ⟨g, O, G, B, c, B', F, hb', e, q⟩ := q
  have e' := d2_op (asB_some e)
  unfold dOp at e'
  cases e1 : (dCons f1 (dCons f2 dNil)) G B with
  | none => rw [e1] at e'; cases e'
  | some p =>
    obtain ⟨ds, B1⟩ := p
    simp only [e1, Option.bind_some] at e'
    cases e2 : sem2 f ds with
    | none => rw [e2] at e'; cases e'
    | some d' =>
      rw [e2] at e'
      have e3 : (d', B1) = (.bl c, B') := Option.some.inj e'
      cases e3
      have h2 : tL X.K mu [fz, .vw] (dCons f1 (dCons f2 dNil)) σ H (fun vs H1 => rL2 r vs H1 fun x H' => ∃ k, x = .bl k ∧ Q k H') := ⟨g, O, G, B, ds, _, F, hb', e1, fun vs H1 A G1 => G1.op h.opn F hb' e2 fun v H' A' Gt => ⟨c, by cases Gt.rw_; rfl, q H' Gt.ext Gt.bag⟩⟩
      exact tL_two h2
theorem et_in (hu : X.A.units + 65 < cLine) (ha : EV X mu a fz f1) (hb : EV X mu b .vw f2) (hm : behindInMarks .In b = false := by rfl) : ET X mu (.Compare a [.In] [b] pos) (asB (d2 fIn f1 f2)) := et_cmpM (op_inAll hu) o_in ha hb hm
theorem et_notIn (hu : X.A.units + 65 < cLine) (ha : EV X mu a fz f1) (hb : EV X mu b .vw f2) (hm : behindInMarks .NotIn b = false := by rfl) : ET X mu (.Compare a [.NotIn] [b] pos) (asB (d2 fNotIn f1 f2)) := et_cmpM (op_notInAll hu) o_notIn ha hb hm
end
end Xa
/-! YA1: what is told over data, whatever was drawn. -/
namespace Xa
open PySem PySem.Spec
open PyProof.Rows L2
structure GoodB (B : Bag) : Prop where
  c0 : 0 ≤ B.c0
  c2 : 0 ≤ B.c2
  cells : ∀ c ∈ B.cells, 0 ≤ c
  len : B.cells.length ≤ 63
  dd : B.dd = none
theorem good0 {ns : List Int} (h : ns.length ≤ 63) : GoodB (bag0 ns) := by
  refine ⟨Int.le_refl 0, Int.le_refl 0, fun c hc => ?_, by simpa [bag0] using h, rfl⟩
  unfold bag0 at hc
  obtain ⟨i, _, rfl⟩ := List.mem_map.mp hc
  unfold absI
  split <;> omega
/-- for each good bag an answer, of the kind P, and a good bag -/
def Tells (F : FD) (ds : List D) (P : D → Prop) : Prop := ∀ B, GoodB B → ∃ d B', F ds B = some (d, B') ∧ GoodB B' ∧ P d
theorem Tells.mono {F : FD} {ds : List D} {P P' : D → Prop} (h : Tells F ds P) (z : ∀ d, P d → P' d) : Tells F ds P' := fun B g =>
  let ⟨d, B', e, g', p⟩ := h B g
  ⟨d, B', e, g', z d p⟩
/-- the same of an expression in slots -/
def Says (f : DE) (G : Gam) (P : D → Prop) : Prop := ∀ B, GoodB B → ∃ d B', f G B = some (d, B') ∧ GoodB B' ∧ P d
def SaysL (f : DA) (G : Gam) (P : List D → Prop) : Prop := ∀ B, GoodB B → ∃ d B', f G B = some (d, B') ∧ GoodB B' ∧ P d
def SaysT (f : DT) (G : Gam) (P : Bool → Prop) : Prop := ∀ B, GoodB B → ∃ d B', f G B = some (d, B') ∧ GoodB B' ∧ P d
/-- a statement: what it leaves -/
def Does (s : DS) (G : Gam) (P : Gam → Prop) (R : D → Prop) : Prop := ∀ B, GoodB B → ∃ o, s G B = some o ∧ match o with
  | .nx G' B' => GoodB B' ∧ P G'
  | .rt d B' => GoodB B' ∧ R d
  | _ => False
section
variable {f f1 f2 f3 : DE} {fs : DA} {u u1 u2 : DT} {s s1 s2 : DS} {G : Gam} {P P1 P2 : D → Prop} {R : D → Prop}
theorem Says.mono {P' : D → Prop} (h : Says f G P) (z : ∀ d, P d → P' d) : Says f G P' := fun B g =>
  let ⟨d, B', e, g', p⟩ := h B g
  ⟨d, B', e, g', z d p⟩
theorem says_c {d : D} : Says (dC d) G (· = d) := fun B g => ⟨d, B, rfl, g, rfl⟩
theorem says_var {i : Nat} {d : D} (h : gat G i = some d) : Says (dVar i) G (· = d) := fun B g => ⟨d, B, by unfold dVar; rw [h]; rfl, g, rfl⟩
theorem says_atom {d : D} (h : Says f G (· = d)) (ha : isAtom d = true) : Says (dAtom f) G (· = d) := fun B g => by
  obtain ⟨d', B', e, g', rfl⟩ := h B g
  exact ⟨d', B', by unfold dAtom; rw [e, Option.bind_some, if_pos ha], g', rfl⟩
theorem says_own {i : Nat} {ds : List D} (h : gat G i = some (.lst ds)) : Says (dOwn i) G (· = .lst ds) := fun B g => ⟨_, B, by unfold dOwn; rw [h]; rfl, g, rfl⟩
theorem says_ownD {i : Nat} {kvs : List (D × D)} (h : gat G i = some (.dic kvs)) : Says (dOwn i) G (· = .dic kvs) := fun B g => ⟨_, B, by unfold dOwn; rw [h]; rfl, g, rfl⟩
theorem says_d1 {F : D → Option D} (h : Says f G P1) (z : ∀ d, P1 d → ∃ r, F d = some r ∧ P r) : Says (d1 F f) G P := fun B g => by
  obtain ⟨d, B', e, g', p⟩ := h B g
  obtain ⟨r, er, pr⟩ := z d p
  exact ⟨r, B', by unfold d1; rw [e, Option.bind_some, er]; rfl, g', pr⟩
theorem says_d2 {F : D → D → Option D} (h1 : Says f1 G P1) (h2 : Says f2 G P2) (z : ∀ d e, P1 d → P2 e → ∃ r, F d e = some r ∧ P r) : Says (d2 F f1 f2) G P := fun B g => by
  obtain ⟨d, B1, e1, g1, p1⟩ := h1 B g
  obtain ⟨d', B2, e2, g2, p2⟩ := h2 B1 g1
  obtain ⟨r, er, pr⟩ := z d d' p1 p2
  exact ⟨r, B2, by unfold d2; rw [e1, Option.bind_some]; simp only; rw [e2, Option.bind_some]; simp only; rw [er]; rfl, g2, pr⟩
theorem saysL_nil : SaysL dNil G (· = []) := fun B g => ⟨[], B, rfl, g, rfl⟩
theorem saysL_cons {PL PL' : List D → Prop} (h1 : Says f G P1) (h2 : SaysL fs G PL) (z : ∀ d ds, P1 d → PL ds → PL' (d :: ds)) : SaysL (dCons f fs) G PL' := fun B g => by
  obtain ⟨d, B1, e1, g1, p1⟩ := h1 B g
  obtain ⟨ds, B2, e2, g2, p2⟩ := h2 B1 g1
  exact ⟨d :: ds, B2, by unfold dCons; rw [e1, Option.bind_some]; simp only; rw [e2]; rfl, g2, z d ds p1 p2⟩
theorem says_call {F : FD} {PL : List D → Prop} (h1 : SaysL fs G PL) (z : ∀ ds, PL ds → Tells F ds P) : Says (dCall F fs) G P := fun B g => by
  obtain ⟨ds, B1, e1, g1, p1⟩ := h1 B g
  obtain ⟨d, B2, e2, g2, p2⟩ := z ds p1 B1 g1
  exact ⟨d, B2, by unfold dCall; rw [e1, Option.bind_some]; exact e2, g2, p2⟩
theorem says_op {F : List D → Option D} {PL : List D → Prop} (h1 : SaysL fs G PL) (z : ∀ ds, PL ds → ∃ r, F ds = some r ∧ P r) : Says (dOp F fs) G P := fun B g => by
  obtain ⟨ds, B1, e1, g1, p1⟩ := h1 B g
  obtain ⟨r, er, pr⟩ := z ds p1
  exact ⟨r, B1, by unfold dOp; rw [e1, Option.bind_some]; simp only; rw [er]; rfl, g1, pr⟩
theorem saysT_asB {PT : Bool → Prop} (h : Says f G fun d => ∃ c, d = .bl c ∧ PT c) : SaysT (asB f) G PT := fun B g => by
  obtain ⟨d, B1, e1, g1, c, rfl, p⟩ := h B g
  exact ⟨c, B1, by unfold asB; rw [e1]; rfl, g1, p⟩
theorem saysT_not {PT PT' : Bool → Prop} (h : SaysT u G PT) (z : ∀ c, PT c → PT' (!c)) : SaysT (tNotD u) G PT' := fun B g => by
  obtain ⟨d, B1, e1, g1, p⟩ := h B g
  exact ⟨!d, B1, by unfold tNotD; rw [e1]; rfl, g1, z d p⟩
theorem saysT_and {P1 P2 PT : Bool → Prop} (h1 : SaysT u1 G P1) (h2 : P1 true → SaysT u2 G P2) (zt : ∀ c, P1 true → P2 c → PT c) (zf : P1 false → PT false) : SaysT (tAndD u1 u2) G PT := fun B g => by
  obtain ⟨c, B1, e1, g1, p1⟩ := h1 B g
  cases c with
  | true =>
    obtain ⟨c2, B2, e2, g2, p2⟩ := h2 p1 B1 g1
    exact ⟨c2, B2, by unfold tAndD; rw [e1, Option.bind_some]; exact e2, g2, zt c2 p1 p2⟩
  | false => exact ⟨false, B1, by unfold tAndD; rw [e1]; rfl, g1, zf p1⟩
theorem saysT_or {P1 P2 PT : Bool → Prop} (h1 : SaysT u1 G P1) (h2 : P1 false → SaysT u2 G P2) (zt : P1 true → PT true) (zf : ∀ c, P1 false → P2 c → PT c) : SaysT (tOrD u1 u2) G PT := fun B g => by
  obtain ⟨c, B1, e1, g1, p1⟩ := h1 B g
  cases c with
  | false =>
    obtain ⟨c2, B2, e2, g2, p2⟩ := h2 p1 B1 g1
    exact ⟨c2, B2, by unfold tOrD; rw [e1, Option.bind_some]; exact e2, g2, zf c2 p1 p2⟩
  | true => exact ⟨true, B1, by unfold tOrD; rw [e1]; rfl, g1, zt p1⟩
theorem says_if {PT : Bool → Prop} (h : SaysT u G PT) (h2 : PT true → Says f2 G P) (h3 : PT false → Says f3 G P) : Says (dIf u f2 f3) G P := fun B g => by
  obtain ⟨c, B1, e1, g1, p⟩ := h B g
  cases c with
  | true =>
    obtain ⟨d, B2, e2, g2, p2⟩ := h2 p B1 g1
    exact ⟨d, B2, by unfold dIf; rw [e1, Option.bind_some]; exact e2, g2, p2⟩
  | false =>
    obtain ⟨d, B2, e2, g2, p2⟩ := h3 p B1 g1
    exact ⟨d, B2, by unfold dIf; rw [e1, Option.bind_some]; exact e2, g2, p2⟩
theorem says_and (h1 : Says f1 G fun d => ∃ c, d = .bl c ∧ P1 (.bl c)) (h2 : P1 (.bl true) → Says f2 G P) (hf : P1 (.bl false) → P (.bl false)) : Says (dAnd f1 f2) G P := fun B g => by
  obtain ⟨d, B1, e1, g1, c, rfl, p1⟩ := h1 B g
  cases c with
  | true =>
    obtain ⟨d, B2, e2, g2, p2⟩ := h2 p1 B1 g1
    exact ⟨d, B2, by unfold dAnd asB; rw [e1]; exact e2, g2, p2⟩
  | false => exact ⟨.bl false, B1, by unfold dAnd asB; rw [e1]; rfl, g1, hf p1⟩
/-! statements -/
variable {Pn Pm : Gam → Prop}
theorem Does.mono {Pn' : Gam → Prop} {R' : D → Prop} (h : Does s G Pn R) (z : ∀ G, Pn G → Pn' G) (z2 : ∀ d, R d → R' d) : Does s G Pn' R' := fun B g => by
  obtain ⟨o, e, q⟩ := h B g
  refine ⟨o, e, ?_⟩
  cases o with
  | nx G' B' => exact ⟨q.1, z _ q.2⟩
  | rt d B' => exact ⟨q.1, z2 _ q.2⟩
  | bk => exact q
  | ct => exact q
theorem does_skip (h : Pn G) : Does sSkip G Pn R := fun B g => ⟨_, rfl, g, h⟩
theorem does_then (h1 : Does s1 G Pm R) (h2 : ∀ G', Pm G' → Does s2 G' Pn R) : Does (sThen s1 s2) G Pn R := fun B g => by
  obtain ⟨o, e, q⟩ := h1 B g
  unfold sThen
  rw [e]
  cases o with
  | nx G' B' => exact h2 G' q.2 B' q.1
  | rt d B' => exact ⟨_, rfl, q⟩
  | bk => exact q.elim
  | ct => exact q.elim
theorem does_if {PT : Bool → Prop} (h : SaysT u G PT) (h2 : PT true → Does s1 G Pn R) (h3 : PT false → Does s2 G Pn R) : Does (sIf u s1 s2) G Pn R := fun B g => by
  obtain ⟨c, B1, e1, g1, p⟩ := h B g
  unfold sIf
  rw [e1, Option.bind_some]
  cases c with
  | true => exact h2 p B1 g1
  | false => exact h3 p B1 g1
theorem does_ret (h : Says f G R) : Does (sRet f) G Pn R := fun B g => by
  obtain ⟨d, B1, e1, g1, p⟩ := h B g
  exact ⟨.rt d B1, by unfold sRet; rw [e1]; rfl, g1, p⟩
theorem does_set {i : Nat} (h : Says f G P) (z : ∀ d, P d → Pn (G.set i (some d))) : Does (sSet i f) G Pn R := fun B g => by
  obtain ⟨d, B1, e1, g1, p⟩ := h B g
  exact ⟨.nx (G.set i (some d)) B1, by unfold sSet; rw [e1]; rfl, g1, z d p⟩
theorem does_sets {is : List Nat} {PL : List D → Prop} (h : SaysL fs G PL) (z : ∀ ds, PL ds → Pn (setG G is ds)) : Does (sSets is fs) G Pn R := fun B g => by
  obtain ⟨d, B1, e1, g1, p⟩ := h B g
  exact ⟨.nx (setG G is d) B1, by unfold sSets; rw [e1]; rfl, g1, z d p⟩
theorem does_unpack {is : List Nat} (h : Says f G fun d => ∃ ds, d = .tup ds ∧ ds.length = is.length ∧ Pn (setG G is ds)) : Does (sUnpack is f) G Pn R := fun B g => by
  obtain ⟨d, B1, e1, g1, ds, rfl, hl, p⟩ := h B g
  exact ⟨.nx (setG G is ds) B1, by unfold sUnpack; rw [e1, Option.bind_some]; simp only; rw [if_pos hl], g1, p⟩
theorem does_unpackL {is : List Nat} (h : Says f G fun d => ∃ ds, d = .lst ds ∧ ds.length = is.length ∧ Pn (setG G is ds)) : Does (sUnpackL is f) G Pn R := fun B g => by
  obtain ⟨d, B1, e1, g1, ds, rfl, hl, p⟩ := h B g
  exact ⟨.nx (setG G is ds) B1, by unfold sUnpackL; rw [e1, Option.bind_some]; simp only; rw [if_pos hl], g1, p⟩
/-- a for: an invariant by the place -/
theorem forGo_does {tgt : TgD} {body : DS} {Inv : Nat → Gam → Prop} {ds : List D} (step : ∀ i d G, ds[i]? = some d → Inv i G → ∃ G1, tgt G d = some G1 ∧ Does body G1 (Inv (i + 1)) R) :
    ∀ (n i : Nat) (G : Gam), n + i = ds.length → Inv i G → Does (fun G B => forGo tgt body (ds.drop i) G B) G (Inv ds.length) R := by
  intro n
  induction n with
  | zero =>
    intro i G hi hI B g
    have : i = ds.length := by omega
    subst this
    rw [List.drop_length]
    exact ⟨_, rfl, g, hI⟩
  | succ n ih =>
    intro i G hi hI B g
    have hlt : i < ds.length := by omega
    obtain ⟨G1, e1, hb⟩ := step i ds[i] G (List.getElem?_eq_getElem hlt) hI
    obtain ⟨o, e2, q⟩ := hb B g
    rw [List.drop_eq_getElem_cons hlt]; show ∃ o, forGo tgt body (ds[i] :: ds.drop (i + 1)) G B = some o ∧ _
    unfold forGo
    rw [e1, Option.bind_some, e2, Option.bind_some]
    cases o with
    | nx G' B' => exact ih (i + 1) G' (by omega) q.2 B' q.1
    | rt d B' => exact ⟨_, rfl, q⟩
    | bk => exact q.elim
    | ct => exact q.elim
theorem does_for {src : DA} {tgt : TgD} {body : DS} {ds : List D} {Inv : Nat → Gam → Prop} (h : SaysL src G (· = ds)) (h0 : Inv 0 G) (step : ∀ i d G, ds[i]? = some d → Inv i G → ∃ G1, tgt G d = some G1 ∧ Does body G1 (Inv (i + 1)) R) (hn : ∀ G, Inv ds.length G → Pn G) : Does (sFor src tgt body) G Pn R := fun B g => by
  obtain ⟨ds', B1, e1, g1, rfl⟩ := h B g
  obtain ⟨o, e, q⟩ := forGo_does step ds'.length 0 G (by omega) h0 B1 g1
  refine ⟨o, by unfold sFor; rw [e1, Option.bind_some]; exact e, ?_⟩
  cases o with
  | nx G' B' => exact ⟨q.1, hn _ q.2⟩
  | rt d B' => exact q
  | bk => exact q
  | ct => exact q
/-- of a def -/
theorem tells_run {n : Nat} {ds : List D} {body : DS} (h : Does body (startG n ds) (fun _ => P .non) P) : Tells (runD n body) ds P := fun B g => by
  obtain ⟨o, e, q⟩ := h B g
  unfold runD
  rw [e]
  cases o with
  | nx G' B' => exact ⟨.non, B', rfl, q⟩
  | rt d B' => exact ⟨d, B', rfl, q⟩
  | bk => exact q.elim
  | ct => exact q.elim
end
end Xa
/-! YA2: the defs by which a law draws. -/
namespace Xa
open PySem PySem.Spec
open PyProof.Rows L2
/-- a whole number so -/
def IsI (Q : Int → Prop) : D → Prop := fun d => ∃ i, d = .int i ∧ Q i
section
variable {f f1 f2 f3 : DE} {fs : DA} {u u1 u2 : DT} {s s1 s2 : DS} {G : Gam} {P P1 P2 : D → Prop} {R : D → Prop} {Q Q1 Q2 : Int → Prop} {Pn : Gam → Prop}
theorem IsI.mk {i : Int} (h : Q i) : IsI Q (.int i) := ⟨i, rfl, h⟩
theorem says_i {i : Int} (h : Q i) : Says (dC (.int i)) G (IsI Q) := says_c.mono fun d e => by rw [e]; exact .mk h
theorem says_vi {j : Nat} {i : Int} (h : gat G j = some (.int i)) (q : Q i) : Says (dVar j) G (IsI Q) := (says_var h).mono fun d e => by rw [e]; exact .mk q
theorem says_addI (h1 : Says f1 G (IsI Q1)) (h2 : Says f2 G (IsI Q2)) (z : ∀ i j, Q1 i → Q2 j → Q (i + j)) : Says (d2 fAdd f1 f2) G (IsI Q) := says_d2 h1 h2 fun d e ⟨i, e1, q1⟩ ⟨j, e2, q2⟩ => by
  subst e1 e2; exact ⟨_, rfl, .mk (z i j q1 q2)⟩
theorem says_modI (h1 : Says f1 G (IsI Q1)) (h2 : Says f2 G (IsI Q2)) (z : ∀ i j, Q1 i → Q2 j → 0 < j ∧ Q (i % j)) : Says (d2 (fI gMod) f1 f2) G (IsI Q) := says_d2 h1 h2 fun d e ⟨i, e1, q1⟩ ⟨j, e2, q2⟩ => by
  subst e1 e2
  obtain ⟨h, q⟩ := z i j q1 q2
  exact ⟨_, by unfold fI gMod; simp only; rw [if_pos h]; rfl, .mk q⟩
theorem says_divI (h1 : Says f1 G (IsI Q1)) (h2 : Says f2 G (IsI Q2)) (z : ∀ i j, Q1 i → Q2 j → (0 < j ∧ j < 1073741824) ∧ Q (i / j)) : Says (d2 (fI gDiv) f1 f2) G (IsI Q) := says_d2 h1 h2 fun d e ⟨i, e1, q1⟩ ⟨j, e2, q2⟩ => by
  subst e1 e2
  obtain ⟨h, q⟩ := z i j q1 q2
  exact ⟨_, by unfold fI gDiv; simp only; rw [if_pos h]; rfl, .mk q⟩
theorem says_mulI (h1 : Says f1 G (IsI Q1)) (h2 : Says f2 G (IsI Q2)) (z : ∀ i j, Q1 i → Q2 j → ((-(2 ^ 64) < i ∧ i < 2 ^ 64) ∨ (-(2 ^ 64) < j ∧ j < 2 ^ 64)) ∧ Q (i * j)) : Says (d2 fMul f1 f2) G (IsI Q) := says_d2 h1 h2 fun d e ⟨i, e1, q1⟩ ⟨j, e2, q2⟩ => by
  subst e1 e2
  obtain ⟨h, q⟩ := z i j q1 q2
  exact ⟨_, by unfold fMul gMul; simp only; rw [if_pos h]; rfl, .mk q⟩
theorem says_intI (h1 : Says f1 G (IsI Q)) : Says (d1 fInt f1) G (IsI Q) := says_d1 h1 fun d ⟨i, e1, q1⟩ => by subst e1; exact ⟨_, rfl, .mk q1⟩
theorem says_bagI {i k : Nat} {d : D} (h : gat G i = some d) (z : ∀ B, GoodB B → Q (bagI k B)) : Says (dBagI i k) G (IsI Q) := fun B g => ⟨_, B, by unfold dBagI; rw [onLaw_ok g.dd, h]; rfl, g, .mk (z B g)⟩
theorem does_bagPut {i k : Nat} {d : D} (h : gat G i = some d) (h1 : Says f G (IsI Q)) (hk : k = 1 ∨ ∀ v, Q v → 0 ≤ v) (p : Pn G) : Does (sBagPut i k f) G Pn R := fun B g => by
  obtain ⟨d', B1, e1, g1, v, rfl, q⟩ := h1 B g
  refine ⟨.nx G (bagPut k B1 v), by unfold sBagPut; rw [h, Option.bind_some, e1, Option.bind_some]; exact onLaw_ok g1.dd, ?_, p⟩
  match k, hk with
  | 0, hk => exact ⟨hk.resolve_left (by decide) v q, g1.c2, g1.cells, g1.len, g1.dd⟩
  | 1, _ => exact ⟨g1.c0, g1.c2, g1.cells, g1.len, g1.dd⟩
  | k + 2, hk => exact ⟨g1.c0, hk.resolve_left (by omega) v q, g1.cells, g1.len, g1.dd⟩
theorem does_bagInc {i : Nat} {d : D} (h : gat G i = some d) (h1 : Says f G (IsI (0 ≤ ·))) (p : Pn G) : Does (sBagInc i 2 f) G Pn R := fun B g => by
  obtain ⟨d', B1, e1, g1, v, rfl, q⟩ := h1 B g
  exact ⟨.nx G (bagPut 2 B1 (bagI 2 B + v)), by unfold sBagInc; rw [onLaw_ok g.dd, h, Option.bind_some, e1, Option.bind_some]; exact onLaw_ok g1.dd, ⟨g1.c0, Int.add_nonneg g.c2 q, g1.cells, g1.len, g1.dd⟩, p⟩
theorem mem_cut {α : Type} {l : List α} {lo hi : Option Int} {x : α} (h : x ∈ cutD l lo hi) : x ∈ l := List.mem_of_mem_drop (List.mem_of_mem_take h)
theorem len_cut {α : Type} {l : List α} {lo hi : Option Int} : (cutD l lo hi).length ≤ l.length := by
  unfold cutD
  rw [List.length_take, List.length_drop]; omega
theorem line1000 {n : Nat} (h : n ≤ 100000) : n ≤ sizeLine := Nat.le_trans h (by rw [sizeLine_eq]; decide)
end
/-! _law_take -/
def takeB : DS := (sThen (sIf (asB (d2 fEq (dBagI 0 0) (dC (.int 0)))) (sThen (sSet 2 (d2 fIdx (d2 fCatL (dCut (dBagL 0) (pAt (dBagI 0 2)) pNo) (dOp semLst (dCons (dC (.int 0)) dNil))) (dC (.int 0))))
  (sThen (sBagInc 0 2 (dC (.int 1)))
  (sThen (sIf (asB (d2 fGe (dVar 2) (d2 (fI gPow) (dC (.int 10)) (dC (.int 18))))) (sBagPut 0 0 (dVar 2)) sSkip)
  (sThen (sSet 3 (d2 fAdd (d2 fAdd (d2 fMul (dBagI 0 1) (dC (.int 48271))) (d2 (fI gMod) (d1 fInt (dVar 2)) (dC (.int 2147483647)))) (d2 fMul (dC (.int 7919)) (dBagI 0 2))))
  (sBagPut 0 1 (d2 (fI gMod) (d1 fInt (dVar 3)) (dC (.int 2147483647)))))))) sSkip)
  (sThen (sIf (asB (d2 fGt (dBagI 0 0) (dC (.int 0)))) (sThen (sSet 4 (d2 (fI gMod) (d1 fInt (dBagI 0 0)) (dVar 1)))
  (sThen (sBagPut 0 0 (d2 (fI gDiv) (d1 fInt (dBagI 0 0)) (dVar 1)))
  (sRet (dVar 4)))) sSkip)
  (sThen (sSet 5 (d2 (fI gMod) (d1 fInt (d2 fMul (d2 fAdd (dBagI 0 1) (dC (.int 1))) (dC (.int 39373)))) (dC (.int 1000000007))))
  (sThen (sSet 6 (d2 (fI gMod) (d1 fInt (d2 fMul (d2 (fI gMod) (d1 fInt (d2 fMul (dVar 5) (dVar 5))) (dC (.int 998244353))) (dC (.int 30011)))) (dC (.int 998244353))))
  (sRet (d2 (fI gMod) (d1 fInt (d2 (fI gDiv) (dVar 6) (dC (.int 7)))) (dVar 1)))))))
abbrev Any : Int → Prop := fun _ => True
theorem says_cmpI {g : Int → Int → Bool} {gs : Str → Str → Bool} {f1 f2 : DE} {G : Gam} {Q1 Q2 : Int → Prop} (h1 : Says f1 G (IsI Q1)) (h2 : Says f2 G (IsI Q2)) : SaysT (asB (d2 (fOrd g gs) f1 f2)) G fun _ => True :=
  saysT_asB (says_d2 h1 h2 fun d e ⟨i, e1, _⟩ ⟨j, e2, _⟩ => by subst e1 e2; exact ⟨_, rfl, _, rfl, trivial⟩)
theorem says_cell {G : Gam} {d0 : D} (h : gat G 0 = some d0) : Says (d2 fIdx (d2 fCatL (dCut (dBagL 0) (pAt (dBagI 0 2)) pNo) (dOp semLst (dCons (dC (.int 0)) dNil))) (dC (.int 0))) G (IsI (0 ≤ ·)) := by
  refine says_d2 (P1 := fun d => ∃ x r, d = .lst (.int x :: r) ∧ 0 ≤ x) (P2 := (· = .int 0)) ?_ says_c ?_
  · refine says_d2 (P1 := fun d => ∃ l : List Int, d = .lst (l.map D.int) ∧ (∀ c ∈ l, 0 ≤ c) ∧ l.length ≤ 63) (P2 := (· = .lst [.int 0])) (fun B g => ?_) ?_ ?_
    · refine ⟨_, B, ?_, g, cutD B.cells (some B.c2) none, rfl, fun c hc => g.cells c (mem_cut hc), Nat.le_trans len_cut g.len⟩
      unfold dCut dBagL pAt dBagI pNo
      rw [h]
      simp only [onLaw_ok g.dd, Option.map_some, Option.bind_some, fCut, bagI]
      congr 3
      unfold cutD
      rw [List.length_map, List.map_take, List.map_drop]
    · exact says_op (PL := (· = [.int 0])) (saysL_cons says_c saysL_nil fun d ds e1 e2 => by rw [e1, e2]) fun ds e => by subst e; exact ⟨_, by unfold semLst; rw [if_pos (line1000 (by simp))], rfl⟩
    · rintro d e ⟨l, rfl, hl, hn⟩ rfl
      refine ⟨.lst (l.map D.int ++ [.int 0]), by unfold fCatL; simp only; rw [if_pos (line1000 (by simp; omega))], ?_⟩
      cases l with
      | nil => exact ⟨0, [], rfl, Int.le_refl 0⟩
      | cons x r => exact ⟨x, r.map D.int ++ [.int 0], rfl, hl x List.mem_cons_self⟩
  · rintro d e ⟨x, r, rfl, hx⟩ rfl
    exact ⟨.int x, atI_nat (j := 0) rfl, .mk hx⟩
theorem tells_take {m : Int} (h0 : 0 < m) (h1 : m < 1073741824) : Tells (runD 7 takeB) [.non, .int m] (IsI fun r => 0 ≤ r ∧ r < m) := by
  have md : ∀ i : Int, 0 ≤ i % m ∧ i % m < m := fun i => ⟨Int.emod_nonneg i (by omega), Int.emod_lt_of_pos i h0⟩
  refine tells_run ?_
  let Pf : Gam → Prop := fun G => gat G 0 = some .non ∧ gat G 1 = some (.int m) ∧ G.length = 7
  have st : ∀ {G : Gam} {i : Nat} {d : D}, 2 ≤ i → Pf G → Pf (G.set i (some d)) := fun {G i d} hi ⟨a, b, c⟩ => by
    refine ⟨?_, ?_, by rw [List.length_set]; exact c⟩
    · unfold gat at a ⊢; rw [List.getElem?_set_ne (by omega)]; exact a
    · unfold gat at b ⊢; rw [List.getElem?_set_ne (by omega)]; exact b
  have gs : ∀ {G : Gam} {i : Nat} {d : D}, i < 7 → Pf G → gat (G.set i (some d)) i = some d := fun {G i d} hi p => by
    unfold gat
    rw [List.getElem?_set_self (by rw [p.2.2]; exact hi)]; rfl
  unfold takeB
  refine does_then (Pm := Pf) ?_ fun G p => ?_
  · have p0 : Pf (startG 7 [.non, .int m]) := ⟨rfl, rfl, rfl⟩
    refine does_if (PT := fun _ => True) (saysT_asB (says_d2 (P1 := IsI Any) (P2 := (· = .int 0)) (says_bagI p0.1 fun _ _ => trivial) says_c fun d e ⟨i, e1, _⟩ e2 => by subst e1 e2; exact ⟨_, rfl, _, rfl, trivial⟩)) (fun _ => ?_) fun _ => does_skip p0
    refine does_then (Pm := fun G => Pf G ∧ ∃ c, gat G 2 = some (.int c) ∧ 0 ≤ c) (does_set (says_cell p0.1) fun d ⟨c, e, hc⟩ => by subst e; exact ⟨st (by decide) p0, c, gs (by decide) p0, hc⟩) fun G ⟨p, c, hc, c0⟩ => ?_
    refine does_then (Pm := fun G' => G' = G) (does_bagInc p.1 (says_i (by decide)) rfl) fun G' e => ?_
    subst e
    refine does_then (Pm := fun G2 => G2 = G') ?_ fun G2 e => ?_
    · refine does_if (PT := fun _ => True) (says_cmpI (Q1 := Any) (Q2 := Any) (says_vi hc trivial) (says_d2 says_c says_c fun d e e1 e2 => by subst e1 e2; exact ⟨_, rfl, _, rfl, trivial⟩)) (fun _ => ?_) fun _ => does_skip rfl
      exact does_bagPut p.1 (says_vi (Q := (0 ≤ ·)) hc c0) (.inr fun _ h => h) rfl
    · subst e
      refine does_then (Pm := fun G => Pf G ∧ ∃ c, gat G 3 = some (.int c)) (does_set (P := IsI Any) ?_ fun d ⟨c, e, hc⟩ => by subst e; exact ⟨st (by decide) p, c, gs (by decide) p⟩) fun G ⟨p, c, hc⟩ => ?_
      · refine says_addI (Q1 := Any) (Q2 := Any) (says_addI (Q1 := Any) (Q2 := Any) ?_ ?_ fun _ _ _ _ => trivial) ?_ fun _ _ _ _ => trivial
        · exact says_mulI (Q1 := Any) (Q2 := (· = 48271)) (says_bagI p.1 fun _ _ => trivial) (says_i rfl) fun i j _ e => ⟨.inr (by subst e; decide), trivial⟩
        · exact says_modI (Q1 := Any) (Q2 := (· = 2147483647)) (says_intI (says_vi hc trivial)) (says_i rfl) fun i j _ e => ⟨by subst e; decide, trivial⟩
        · exact says_mulI (Q1 := (· = 7919)) (Q2 := Any) (says_i rfl) (says_bagI p.1 fun _ _ => trivial) fun i j e _ => ⟨.inl (by subst e; decide), trivial⟩
      · exact does_bagPut p.1 (Q := Any) (says_modI (Q1 := Any) (Q2 := (· = 2147483647)) (says_intI (says_vi hc trivial)) (says_i rfl) fun i j _ e => ⟨by subst e; decide, trivial⟩) (.inl rfl) p
  refine does_then (Pm := Pf) ?_ fun G p => ?_
  · refine does_if (PT := fun _ => True) (says_cmpI (Q1 := Any) (Q2 := Any) (says_bagI p.1 fun _ _ => trivial) (says_i trivial)) (fun _ => ?_) fun _ => does_skip p
    refine does_then (Pm := fun G => Pf G ∧ ∃ c, gat G 4 = some (.int c) ∧ 0 ≤ c ∧ c < m) (does_set (says_modI (Q1 := Any) (Q2 := (· = m)) (Q := fun r => 0 ≤ r ∧ r < m) (says_intI (says_bagI p.1 fun _ _ => trivial)) (says_vi p.2.1 rfl) fun i j _ e => by subst e; exact ⟨h0, md i⟩) fun d ⟨c, e, hc⟩ => by subst e; exact ⟨st (by decide) p, c, gs (by decide) p, hc⟩) fun G ⟨p, c, hc, hb⟩ => ?_
    refine does_then (Pm := fun G' => G' = G) (does_bagPut p.1 (Q := (0 ≤ ·)) (says_divI (Q1 := (0 ≤ ·)) (Q2 := (· = m)) (says_intI (says_bagI p.1 fun B g => g.c0)) (says_vi p.2.1 rfl) fun i j hi e => by subst e; exact ⟨⟨h0, h1⟩, Int.ediv_nonneg hi (by omega)⟩) (.inr fun _ h => h) rfl) fun G' e => ?_
    subst e
    exact does_ret (says_vi hc hb)
  refine does_then (Pm := fun G => Pf G ∧ ∃ c, gat G 5 = some (.int c) ∧ 0 ≤ c ∧ c < 1000000007) (does_set (says_modI (Q1 := Any) (Q2 := (· = 1000000007)) (Q := fun r => 0 ≤ r ∧ r < 1000000007) (says_intI (says_mulI (Q1 := Any) (Q2 := (· = 39373)) (says_addI (Q1 := Any) (Q2 := Any) (says_bagI p.1 fun _ _ => trivial) (says_i trivial) fun _ _ _ _ => trivial) (says_i rfl) fun i j _ e => ⟨.inr (by subst e; decide), trivial⟩)) (says_i rfl) fun i j _ e => by subst e; exact ⟨by decide, by omega⟩) fun d ⟨c, e, hc⟩ => by subst e; exact ⟨st (by decide) p, c, gs (by decide) p, hc⟩) fun G ⟨p, c, hc, hb⟩ => ?_
  refine does_then (Pm := fun G => Pf G ∧ ∃ c, gat G 6 = some (.int c)) (does_set (P := IsI Any) ?_ fun d ⟨c, e, hc⟩ => by subst e; exact ⟨st (by decide) p, c, gs (by decide) p⟩) fun G ⟨p, c, hc⟩ => ?_
  · refine says_modI (Q1 := Any) (Q2 := (· = 998244353)) (says_intI (says_mulI (Q1 := Any) (Q2 := (· = 30011)) (says_modI (Q1 := Any) (Q2 := (· = 998244353)) (says_intI (says_mulI (Q1 := (· = c)) (Q2 := (· = c)) (says_vi hc rfl) (says_vi hc rfl) fun i j e1 e2 => ⟨.inl (by subst e1; omega), trivial⟩)) (says_i rfl) fun i j _ e => ⟨by subst e; decide, trivial⟩) (says_i rfl) fun i j _ e => ⟨.inr (by subst e; decide), trivial⟩)) (says_i rfl) fun i j _ e => ⟨by subst e; decide, trivial⟩
  exact does_ret (says_modI (Q1 := Any) (Q2 := (· = m)) (says_intI (says_divI (Q1 := Any) (Q2 := (· = 7)) (says_vi hc trivial) (says_i rfl) fun i j _ e => ⟨by subst e; decide, trivial⟩)) (says_vi p.2.1 rfl) fun i j _ e => by subst e; exact ⟨h0, md i⟩)
end Xa
/-! YA3: one of some things, all of them in some order; alike. -/
namespace Xa
open PySem PySem.Spec
open PyProof.Rows L2
/-- a def that draws -/
def Draws (T : FD) : Prop := ∀ m : Int, 0 < m → m < 1073741824 → Tells T [.non, .int m] (IsI fun r => 0 ≤ r ∧ r < m)
theorem draws_take : Draws (runD 7 takeB) := fun _ h0 h1 => tells_take h0 h1
theorem idx_nat {ds : List D} {r : Int} (h0 : 0 ≤ r) (h1 : r < ds.length) : ∃ d, atI ds r = some d ∧ d ∈ ds := by
  obtain ⟨j, rfl⟩ : ∃ j : Nat, r = j := ⟨r.toNat, by omega⟩
  have hj : j < ds.length := by omega
  exact ⟨ds[j], atI_nat (List.getElem?_eq_getElem hj), List.getElem_mem hj⟩
section
variable {T : FD} (hT : Draws T)
include hT
theorem says_draw {G : Gam} {f : DE} {i : Nat} {m : Int} (h : gat G i = some .non) (hf : Says f G (IsI (· = m))) (h0 : 0 < m) (h1 : m < 1073741824) : Says (dCall T (dCons (dVar i) (dCons f dNil))) G (IsI fun r => 0 ≤ r ∧ r < m) :=
  says_call (PL := (· = [.non, .int m])) (saysL_cons (says_var h) (saysL_cons (PL' := (· = [.int m])) hf saysL_nil fun d ds ⟨j, e1, e2⟩ e3 => by subst e1 e2 e3; rfl) fun d ds e1 e2 => by subst e1 e2; rfl) fun ds e => by subst e; exact hT m h0 h1
def someB (T : FD) : DS := (sRet (d2 fIdx (dVar 1) (dCall T (dCons (dVar 0) (dCons (d1 fLen (dVar 1)) dNil)))))
theorem tells_someL {ds : List D} (h : ds ≠ []) (hl : ds.length < 1073741824) : Tells (runD 2 (someB T)) [.non, .lst ds] (· ∈ ds) := by
  refine tells_run (does_ret ?_)
  have hp : 0 < ds.length := List.length_pos_iff.mpr h
  refine says_d2 (P1 := (· = .lst ds)) (says_var rfl) (says_draw hT rfl (says_d1 (says_var (d := .lst ds) rfl) fun d e => by subst e; exact ⟨_, rfl, .mk rfl⟩) (by omega) (by omega)) ?_
  rintro d e rfl ⟨r, rfl, h0, h1⟩
  exact idx_nat h0 h1
theorem tells_someT {ds : List D} (h : ds ≠ []) (hl : ds.length < 1073741824) : Tells (runD 2 (someB T)) [.non, .tup ds] (· ∈ ds) := by
  refine tells_run (does_ret ?_)
  have hp : 0 < ds.length := List.length_pos_iff.mpr h
  refine says_d2 (P1 := (· = .tup ds)) (says_var rfl) (says_draw hT rfl (says_d1 (says_var (d := .tup ds) rfl) fun d e => by subst e; exact ⟨_, rfl, .mk rfl⟩) (by omega) (by omega)) ?_
  rintro d e rfl ⟨r, rfl, h0, h1⟩
  exact idx_nat h0 h1
theorem tells_someS {z : Str} (h : 0 < z.length) (hl : z.length ≤ 100000) : Tells (runD 2 (someB T)) [.non, .str z] (fun d => ∃ c ∈ z.cps.toList, d = .str ⟨#[c]⟩) := by
  refine tells_run (does_ret ?_)
  have hz : z.length = z.cps.toList.length := by simp [Str.length]
  refine says_d2 (P1 := (· = .str z)) (says_var rfl) (says_draw hT (m := (z.length : Int)) rfl (says_d1 (says_var (d := .str z) rfl) fun d e => by subst e; exact ⟨_, by unfold fLen; simp only; rw [if_pos (line1000 hl)], .mk rfl⟩) (by omega) (by omega)) ?_
  rintro d e rfl ⟨r, rfl, h0, h1⟩
  obtain ⟨j, rfl⟩ : ∃ j : Nat, r = j := ⟨r.toNat, by omega⟩
  have hj : j < z.cps.toList.length := by omega
  exact ⟨_, by unfold fIdx; simp only; rw [if_pos (line1000 hl), atI_nat (List.getElem?_eq_getElem hj)]; rfl, _, List.getElem_mem hj, rfl⟩
def mixedB (T : FD) : DS := (sThen (sSet 2 (dOp semLst dNil))
  (sThen (sFor (dItems (dVar 1)) (tgName 3) (sMt 2 mInsert (dCons (dCall T (dCons (dVar 0) (dCons (d2 fAdd (d1 fLen (dOwn 2)) (dC (.int 1))) dNil))) (dCons (dVar 3) dNil))))
  (sRet (dVar 2))))
theorem does_mt {i : Nat} {fm : List D → List D → Option (List D × D)} {fs : DA} {G : Gam} {Pn : Gam → Prop} {R : D → Prop} {ds : List D} {PL : List D → Prop} (h : gat G i = some (.lst ds)) (hf : SaysL fs G PL) (z : ∀ es, PL es → ∃ ds' d, fm ds es = some (ds', d) ∧ Pn (G.set i (some (.lst ds')))) : Does (sMt i fm fs) G Pn R := fun B g => by
  obtain ⟨es, B1, e1, g1, p⟩ := hf B g
  obtain ⟨ds', d, e2, q⟩ := z es p
  exact ⟨.nx (G.set i (some (.lst ds'))) B1, by unfold sMt dMt; rw [e1, Option.bind_some, h, Option.bind_some]; simp only; rw [e2]; rfl, g1, q⟩
theorem perm_ins {ds l : List D} {d : D} {k : Nat} (h : l.Perm ds) : (l.take k ++ [d] ++ l.drop k).Perm (ds ++ [d]) := by
  have h1 : (l.take k ++ [d] ++ l.drop k).Perm (l.take k ++ l.drop k ++ [d]) := by
    have e1 := List.Perm.append_left (l.take k) (List.perm_append_comm (l₁ := [d]) (l₂ := l.drop k))
    simpa only [List.append_assoc] using e1
  rw [List.take_append_drop] at h1
  exact h1.trans (h.append_right _)
theorem tells_mixed {x : D} {ds : List D} (hx : items x = some ds) (hl : ds.length ≤ 100000) : Tells (runD 4 (mixedB T)) [.non, x] (fun d => ∃ l, d = .lst l ∧ l.Perm ds) := by
  refine tells_run ?_
  unfold mixedB
  have s0 : startG 4 [.non, x] = [some .non, some x, none, none] := rfl
  rw [s0]
  let In : Nat → Gam → Prop := fun i G => ∃ l y, G = [some .non, some x, some (.lst l), y] ∧ l.Perm (ds.take i)
  refine does_then (Pm := In 0) (does_set (says_op saysL_nil fun ds e => by subst e; exact ⟨.lst [], by unfold semLst; rw [if_pos (line1000 (by simp))], rfl⟩) fun d e => by subst e; exact ⟨[], none, rfl, .nil⟩) fun G h => ?_
  obtain ⟨l0, y0, rfl, p0⟩ := h
  refine does_then (Pm := In ds.length) (does_for (Inv := In) (ds := ds) (fun B g => ⟨ds, B, ?_, g, rfl⟩) ⟨l0, y0, rfl, p0⟩ ?_ fun G h => h) fun G h => ?_
  · unfold dItems dVar
    show (Option.bind (some (x, B)) fun p => (items p.1).map fun ds => (ds, p.2)) = _
    rw [Option.bind_some, hx]; rfl
  · rintro i d G hd ⟨l, y, rfl, p⟩
    refine ⟨_, rfl, ?_⟩
    have hi : i < ds.length := (List.getElem?_eq_some_iff.mp hd).1
    have hll : l.length = i := by rw [p.length_eq, List.length_take]; omega
    refine does_mt hT (ds := l) rfl (PL := fun es => ∃ r : Int, es = [.int r, d] ∧ 0 ≤ r ∧ r < (l.length : Int) + 1) ?_ ?_
    · refine saysL_cons (says_draw hT (m := (l.length : Int) + 1) rfl ?_ (by omega) (by omega)) (saysL_cons (PL' := (· = [d])) (says_var (d := d) rfl) saysL_nil fun a' b' a b => by rw [a, b]) ?_
      · exact says_addI (Q1 := (· = (l.length : Int))) (Q2 := (· = 1)) (says_d1 (says_own (ds := l) rfl) fun d e => by subst e; exact ⟨_, rfl, .mk rfl⟩) (says_i rfl) fun i j a b => by subst a b; rfl
      · rintro _ es ⟨r, rfl, h0, h1⟩ rfl
        exact ⟨r, rfl, h0, h1⟩
    · rintro es ⟨r, rfl, h0, h1⟩
      refine ⟨_, .non, ?_, l.take r.toNat ++ [d] ++ l.drop r.toNat, some d, rfl, ?_⟩
      · unfold mInsert
        simp only
        rw [if_pos ⟨Nat.lt_of_lt_of_le (show l.length < 100001 by omega) (by rw [sizeLine_eq]; decide), h0, by omega⟩]
      · have e : ds.take (i + 1) = ds.take i ++ [d] := by rw [List.take_add_one, hd]; rfl
        rw [e]
        exact perm_ins hT p
  · obtain ⟨l, y, rfl, p⟩ := h
    refine does_ret ((says_var (d := .lst l) rfl).mono fun d e => ⟨l, e, ?_⟩)
    rw [List.take_length] at p
    exact p
end
/-! alike -/
def alikeB : DS := (sRet (dAnd (d2 fEq (dVar 0) (dVar 1)) (d2 fEq (d1 fRepr (dVar 0)) (d1 fRepr (dVar 1)))))
theorem fEq_self {d : D} (h : shp d = true) (hp : (py d).plain = true) : fEq d d = some (.bl true) := by
  unfold fEq
  split <;> first | (simp; done) | skip
  rename_i x y _ _ _
  rw [if_pos ⟨h, h⟩]
  rw [PySem.SeqAt.eqv_refl_plain _ hp]
theorem tells_alike {d : D} (h : okRepr d = true) (hp : (py d).plain = true) : Tells (runD 2 alikeB) [d, d] (· = .bl true) := by
  have hs : shp d = true := by
    unfold okRepr at h
    simp only [Bool.and_eq_true] at h; exact h.1.1.1
  refine tells_run (does_ret ?_)
  have e1 : ∀ i, i = 0 ∨ i = 1 → Says (dVar i) (startG 2 [d, d]) (· = d) := fun i hi => by
    rcases hi with rfl | rfl
    · exact says_var rfl
    · exact says_var rfl
  have e2 : ∀ i, i = 0 ∨ i = 1 → Says (d1 fRepr (dVar i)) (startG 2 [d, d]) (· = .str (PyData.shown (py d))) := fun i hi => says_d1 (e1 i hi) fun d' e => by
    subst e
    exact ⟨_, by unfold fRepr; rw [if_pos h], rfl⟩
  refine says_and (P1 := (· = .bl true)) (says_d2 (e1 0 (.inl rfl)) (e1 1 (.inr rfl)) fun a b ea eb => by subst ea eb; exact ⟨_, fEq_self hs hp, _, rfl, rfl⟩) (fun _ => ?_) fun z => nomatch z
  exact says_d2 (e2 0 (.inl rfl)) (e2 1 (.inr rfl)) fun a b ea eb => by subst ea eb; exact ⟨.bl true, by unfold fEq; simp, rfl⟩
end Xa
/-! YA4: comprehensions; words. -/
namespace Xa
open PySem PySem.Spec
open PyProof.Rows L2
section
variable {f : DE} {u : DT} {G : Gam} {R : D → Prop}
/-- .. one behind the other -/
theorem compGo_says {tgt : TgD} (keep : D → Bool) (Rel : D → D → Prop) : ∀ {ds : List D}, (∀ d ∈ ds, ∃ G1, tgt G d = some G1 ∧ SaysT u G1 (· = keep d) ∧ (keep d = true → Says f G1 (Rel d))) → ∀ B, GoodB B → ∃ es B', compGo tgt u f G ds B = some (es, B') ∧ GoodB B' ∧ Paired Rel (ds.filter keep) es
  | [], _, B, g => ⟨[], B, rfl, g, .nil⟩
  | d :: r, h, B, g => by
    obtain ⟨G1, e1, h2, h3⟩ := h d List.mem_cons_self
    obtain ⟨c, B1, e2, g1, rfl⟩ := h2 B g
    unfold compGo
    rw [e1, Option.bind_some, e2, Option.bind_some]
    have hr : ∀ x ∈ r, ∃ G1, tgt G x = some G1 ∧ SaysT u G1 (· = keep x) ∧ (keep x = true → Says f G1 (Rel x)) := fun x hx => h x (List.mem_cons_of_mem _ hx)
    by_cases hk : keep d = true
    · simp only [hk, if_true]
      obtain ⟨y, B2, e3, g2, py⟩ := h3 hk B1 g1
      obtain ⟨es, B3, e4, g3, p⟩ := compGo_says keep Rel hr B2 g2
      refine ⟨y :: es, B3, by rw [e3, Option.bind_some]; simp only; rw [e4]; rfl, g3, ?_⟩
      rw [List.filter_cons_of_pos hk]
      exact .cons py p
    · have hk' : keep d = false := by simpa using hk
      simp only [hk', Bool.false_eq_true, if_false]
      obtain ⟨es, B3, e4, g3, p⟩ := compGo_says keep Rel hr B1 g1
      refine ⟨es, B3, e4, g3, ?_⟩
      rw [List.filter_cons_of_neg hk]
      exact p
theorem says_comp {src : DA} {own : List Nat} {tgt : TgD} {ds : List D} (keep : D → Bool) (Rel : D → D → Prop) (h : SaysL src G (· = ds)) (hz : ds.length ≤ sizeLine) (step : ∀ d ∈ ds, ∃ G1, tgt (wipeG G own) d = some G1 ∧ SaysT u G1 (· = keep d) ∧ (keep d = true → Says f G1 (Rel d))) :
    Says (dComp src own tgt u f) G (fun d => ∃ es, d = .lst es ∧ Paired Rel (ds.filter keep) es) := fun B g => by
  obtain ⟨ds', B1, e1, g1, rfl⟩ := h B g
  obtain ⟨es, B2, e2, g2, p⟩ := compGo_says keep Rel step B1 g1
  refine ⟨.lst es, B2, ?_, g2, es, rfl, p⟩
  unfold dComp
  rw [e1, Option.bind_some]
  simp only
  rw [if_pos hz, e2]; rfl
/-- without a test, over a source that is drawn itself -/
theorem says_comp0 {src : DA} {own : List Nat} {tgt : TgD} {PS : List D → Prop} (Rel : D → D → Prop) (h : SaysL src G PS) (hz : ∀ ds, PS ds → ds.length ≤ sizeLine) (step : ∀ ds, PS ds → ∀ d ∈ ds, ∃ G1, tgt (wipeG G own) d = some G1 ∧ Says f G1 (Rel d)) :
    Says (dComp src own tgt dYes f) G (fun d => ∃ ds es, PS ds ∧ d = .lst es ∧ Paired Rel ds es) := fun B g => by
  obtain ⟨ds, B1, e1, g1, ps⟩ := h B g
  obtain ⟨es, B2, e2, g2, p⟩ := compGo_says (u := dYes) (tgt := tgt) (G := wipeG G own) (f := f) (fun _ => true) Rel (fun d hd => by
    obtain ⟨G1, e, hs⟩ := step ds ps d hd
    exact ⟨G1, e, fun B g => ⟨true, B, rfl, g, rfl⟩, fun _ => hs⟩) B1 g1
  refine ⟨.lst es, B2, ?_, g2, ds, es, ps, rfl, ?_⟩
  · unfold dComp
    rw [e1, Option.bind_some]
    simp only
    rw [if_pos (hz ds ps), e2]; rfl
  · have e3 : ds.filter (fun _ => true) = ds := List.filter_eq_self.mpr fun _ _ => rfl
    rw [e3] at p
    exact p
theorem saysL_range1 {Q : Int → Prop} {PS : List D → Prop} (h : Says f G (IsI Q)) (z : ∀ i, Q i → (-(2 ^ 62) ≤ i ∧ i < 2 ^ 62) ∧ PS (rangeD 0 i)) : SaysL (dRange1 f) G PS := fun B g => by
  obtain ⟨d, B1, e1, g1, i, rfl, q⟩ := h B g
  obtain ⟨h1, h2⟩ := z i q
  exact ⟨_, B1, by unfold dRange1; rw [e1, Option.bind_some]; simp only; rw [if_pos h1], g1, h2⟩
theorem rangeD_len {lo hi : Int} : (rangeD lo hi).length = (hi - lo).toNat := by unfold rangeD; simp
theorem rangeD_mem {lo hi : Int} {d : D} (h : d ∈ rangeD lo hi) : ∃ i, d = .int i ∧ lo ≤ i ∧ i < hi := by
  unfold rangeD at h
  obtain ⟨j, hj, rfl⟩ := List.mem_map.mp h
  have := List.mem_range.mp hj
  exact ⟨_, rfl, by omega, by omega⟩
theorem paired_len {α β : Type} {F : α → β → Prop} {l : List α} {m : List β} (h : Paired F l m) : l.length = m.length := by
  induction h with
  | nil => rfl
  | cons _ _ ih => simp [ih]
end
end Xa
/-! YA5: words. -/
namespace Xa
open PySem PySem.Spec PyProof.Rows L2 TL
abbrev IsL (c : Nat) : Prop := 97 ≤ c ∧ c ≤ 122
def abc : Str := "abcdefghijklmnopqrstuvwxyz"
theorem abc_L : ∀ c ∈ tl abc, IsL c := by
  unfold abc
  rw [tl_ofString]
  decide
theorem abc_len : abc.length = 26 := by decide +kernel
/-- a text of letters, so many at most -/
structure Word (n : Nat) (w : Str) : Prop where
  let_ : ∀ c ∈ tl w, IsL c
  pos : 1 ≤ (tl w).length
  le : (tl w).length ≤ n
theorem joinL_nil : ∀ ps : List (List Nat), joinL [] ps = ps.flatten
  | [] => rfl
  | [p] => by simp [joinL]
  | p :: q :: r => by
    show p ++ ([] ++ joinL [] (q :: r)) = _
    rw [joinL_nil (q :: r)]; rfl
theorem strs_of {Rl : Nat → Prop} : ∀ {ds es : List D}, Paired (fun _ e => ∃ c, Rl c ∧ e = D.str ⟨#[c]⟩) ds es → ∃ cs : List Nat, es = cs.map (fun c => D.str ⟨#[c]⟩) ∧ cs.length = ds.length ∧ ∀ c ∈ cs, Rl c
  | _, _, .nil => ⟨[], rfl, rfl, fun _ h => nomatch h⟩
  | _, _, .cons ⟨c, hc, e⟩ t => by
    obtain ⟨cs, e2, hl, hr⟩ := strs_of t
    subst e e2
    exact ⟨c :: cs, rfl, by simp [hl], fun x hx => (List.mem_cons.mp hx).elim (fun z => z ▸ hc) (hr x)⟩
theorem fJoin_signs {cs : List Nat} (h : cs.length ≤ 1000) : ∃ w : Str, fJoin (.str "") (.lst (cs.map fun c => D.str ⟨#[c]⟩)) = some (.str w) ∧ tl w = cs := by
  have e0 : (cs.map fun c => D.str ⟨#[c]⟩) = (cs.map fun c => (⟨#[c]⟩ : Str)).map D.str := by rw [List.map_map]; rfl
  have e1 : ((cs.map fun c => (⟨#[c]⟩ : Str)).map D.str).all isStr = true := by rw [List.all_map]; exact List.all_eq_true.mpr fun _ _ => rfl
  have e2 : ((cs.map fun c => (⟨#[c]⟩ : Str)).map (·.length)).sum = cs.length := by
    rw [List.map_map]
    clear h e1 e0
    induction cs with
    | nil => rfl
    | cons c r ih => rw [List.map_cons, List.sum_cons, ih, List.length_cons]; show 1 + r.length = _; omega
  refine ⟨Txt.join "" (cs.map fun c => (⟨#[c]⟩ : Str)), ?_, ?_⟩
  · rw [e0]
    obtain ⟨j1, j2⟩ := join_maps (cs.map fun c => (⟨#[c]⟩ : Str))
    unfold fJoin
    simp only
    split
    · rename_i hz
      exact congrArg (fun z => some (D.str (Txt.join "" z))) j2
    · rename_i hz
      refine absurd ⟨e1, ?_⟩ hz
      have j1' := congrArg List.sum j1
      rw [e2] at j1'
      refine Nat.le_trans (Nat.add_le_add (Nat.le_of_eq j1') (Nat.le_of_eq (show _ * 0 = 0 from rfl))) (by omega)
  · show tl (Txt.join _ _) = _
    rw [show Txt.join "" (cs.map fun c => (⟨#[c]⟩ : Str)) = Str.join "" (cs.map fun c => (⟨#[c]⟩ : Str)) from StrLaws.glued_eq_join _ _, tl_join]
    rw [show tl ("" : Str) = [] from by rw [tl_ofString]; rfl, joinL_nil, List.map_map]
    clear h e0 e1 e2
    induction cs with
    | nil => rfl
    | cons c r ih => rw [List.map_cons, List.flatten_cons, ih]; rfl
def wordB (T S : FD) : DS := (sThen (sSet 2 (dC (.str "abcdefghijklmnopqrstuvwxyz")))
  (sRet (d2 fJoin (dC (.str "")) (dComp (dRange1 (d2 fAdd (dC (.int 1)) (dCall T (dCons (dVar 0) (dCons (dVar 1) dNil))))) [3] (tgName 3) dYes (dCall S (dCons (dVar 0) (dCons (dVar 2) dNil)))))))
theorem tells_word {T : FD} (hT : Draws T) {m : Nat} (h0 : 0 < m) (h1 : m ≤ 900) : Tells (runD 4 (wordB T (runD 2 (someB T)))) [.non, .int m] (fun d => ∃ w, d = .str w ∧ Word m w) := by
  refine tells_run ?_
  unfold wordB
  have s0 : startG 4 [.non, .int m] = [some .non, some (.int m), none, none] := rfl
  rw [s0]
  refine does_then (Pm := fun G => G = [some .non, some (.int m), some (.str abc), none]) (does_set says_c fun d e => by subst e; rfl) fun G e => ?_
  subst e
  refine does_ret (says_d2 (P1 := (· = .str "")) says_c (says_comp0 (PS := fun ds => 1 ≤ ds.length ∧ ds.length ≤ m) (fun _ e => ∃ c, IsL c ∧ e = D.str ⟨#[c]⟩) (saysL_range1 (Q := fun i => 1 ≤ i ∧ i ≤ m) (says_addI (Q1 := (· = 1)) (says_i rfl) (says_draw hT (m := m) rfl (says_vi rfl rfl) (by omega) (by omega)) fun i j e1 e2 => by subst e1; omega) fun i hi => ⟨by omega, by rw [rangeD_len]; omega⟩) (fun ds h => line1000 (by omega)) fun ds _ d _ => ?_) ?_)
  · refine ⟨_, rfl, ?_⟩
    refine says_call (PL := (· = [.non, .str abc])) (saysL_cons (says_var (d := .non) rfl) (saysL_cons (PL' := (· = [.str abc])) (says_var (d := .str abc) rfl) saysL_nil fun a b ea eb => by rw [ea, eb]) fun a b ea eb => by rw [ea, eb]) fun ds e => ?_
    subst e
    exact (tells_someS hT (z := abc) (by rw [abc_len]; decide) (by rw [abc_len]; decide)).mono fun d ⟨c, hc, e⟩ => ⟨c, abc_L c hc, e⟩
  · rintro d e rfl ⟨ds, es, ⟨hl1, hl2⟩, rfl, p⟩
    obtain ⟨cs, rfl, hl, hc⟩ := strs_of p
    obtain ⟨w, e1, e2⟩ := fJoin_signs (cs := cs) (by omega)
    exact ⟨_, e1, w, rfl, by rw [e2]; exact hc, by rw [e2, hl]; exact hl1, by rw [e2, hl]; exact hl2⟩
end Xa
/-! YA6: names, all of them different. -/
namespace Xa
open PySem PySem.Spec PyProof.Rows L2 TL
theorem paired_mem {α β : Type} {F : α → β → Prop} {l : List α} {m : List β} (h : Paired F l m) {b : β} (hb : b ∈ m) : ∃ a ∈ l, F a b := by
  induction h with
  | nil => cases hb
  | cons p _ ih =>
    rcases List.mem_cons.mp hb with hx | hx
    · exact ⟨_, List.mem_cons_self, hx ▸ p⟩
    · obtain ⟨a, ha, q⟩ := ih hx
      exact ⟨a, List.mem_cons_of_mem _ ha, q⟩
theorem paired_nodup {α β : Type} {F : α → β → Prop} {l : List α} {m : List β} (h : Paired F l m) (inj : ∀ a ∈ l, ∀ a' ∈ l, ∀ b, F a b → F a' b → a = a') (nd : l.Nodup) : m.Nodup := by
  induction h with
  | nil => exact List.nodup_nil
  | @cons a b l m p t ih =>
    rw [List.nodup_cons] at nd ⊢
    refine ⟨fun hb => ?_, ih (fun x hx y hy z => inj x (List.mem_cons_of_mem _ hx) y (List.mem_cons_of_mem _ hy) z) nd.2⟩
    obtain ⟨a', ha', q⟩ := paired_mem t hb
    exact nd.1 (inj a List.mem_cons_self a' (List.mem_cons_of_mem _ ha') b p q ▸ ha')
theorem rangeD_nodup {lo hi : Int} : (rangeD lo hi).Nodup := by
  unfold rangeD
  unfold List.Nodup
  rw [List.pairwise_map]
  refine List.Pairwise.imp (fun {a b} h e => h ?_) List.nodup_range
  have := D.int.inj e
  omega
/-- the texts, with a kind of each -/
theorem strs_of2 {Rl : D → Str → Prop} : ∀ {ds es : List D}, Paired (fun d e => ∃ w, e = D.str w ∧ Rl d w) ds es → ∃ ws : List Str, es = ws.map D.str ∧ Paired Rl ds ws
  | _, _, .nil => ⟨[], rfl, .nil⟩
  | _, _, .cons ⟨w, e, h⟩ t => by
    obtain ⟨ws, e2, p⟩ := strs_of2 t
    subst e e2
    exact ⟨w :: ws, rfl, .cons h p⟩
/-- a list of so many names, no two the same -/
structure Names (m : Nat) (ws : List Str) : Prop where
  nd : ws.Nodup
  word : ∀ w ∈ ws, Word 12 w
  len : ws.length = m
def IsNames (m : Nat) (d : D) : Prop := ∃ ws, d = .lst (ws.map D.str) ∧ Names m ws
theorem names_of {m : Nat} {Rl : D → Str → Prop} {es : List D} (h : Paired (fun d e => ∃ w, e = D.str w ∧ Rl d w) (rangeD 0 m) es) (hw : ∀ (i : Int) w, 0 ≤ i → i < m → Rl (.int i) w → Word 12 w) (inj : ∀ (i j : Int) w, 0 ≤ i → i < m → 0 ≤ j → j < m → Rl (.int i) w → Rl (.int j) w → i = j) : ∃ ws, es = ws.map D.str ∧ Names m ws ∧ ∀ w ∈ ws, ∃ i : Int, 0 ≤ i ∧ i < (m : Int) ∧ Rl (.int i) w := by
  obtain ⟨ws, rfl, p⟩ := strs_of2 h
  refine ⟨ws, rfl, ⟨paired_nodup p (fun a ha a' ha' b q q' => ?_) rangeD_nodup, fun w hw' => ?_, ?_⟩, fun w hw' => ?_⟩
  · obtain ⟨i, rfl, h1, h2⟩ := rangeD_mem ha
    obtain ⟨j, rfl, h3, h4⟩ := rangeD_mem ha'
    rw [inj i j b h1 h2 h3 h4 q q']
  · obtain ⟨a, ha, q⟩ := paired_mem p hw'
    obtain ⟨i, rfl, h1, h2⟩ := rangeD_mem ha
    exact hw i w h1 h2 q
  · rw [← paired_len p, rangeD_len]; omega
  · obtain ⟨a, ha, q⟩ := paired_mem p hw'
    obtain ⟨i, rfl, h1, h2⟩ := rangeD_mem ha
    exact ⟨i, h1, h2, q⟩
theorem abc_at : ∀ j, j < 26 → (tl abc)[j]? = some (97 + j) := by
  unfold abc
  rw [tl_ofString]
  decide
theorem fIdx_abc {r : Int} (h0 : 0 ≤ r) (h1 : r < 26) : fIdx (.str abc) (.int r) = some (.str ⟨#[97 + r.toNat]⟩) := by
  obtain ⟨j, rfl⟩ : ∃ j : Nat, r = j := ⟨r.toNat, by omega⟩
  unfold fIdx
  simp only
  rw [if_pos (line1000 (by rw [abc_len]; decide)), atI_nat (abc_at j (by omega)), Int.toNat_natCast]
  rfl
theorem tl_cut_to {z : Str} {p : Nat} (h : p ≤ z.length) : tl (cutS z none (some (p : Int))) = (tl z).take p := by
  unfold cutS
  rw [HT.sIx_none, HT.sIx_nat, Nat.min_eq_left h]
  simp
theorem tl_cut_from {z : Str} {p : Nat} (h : p ≤ z.length) : tl (cutS z (some (p : Int)) none) = (tl z).drop p := by
  unfold cutS
  rw [HT.sIx_none, HT.sIx_nat, Nat.min_eq_left h]
  show List.take _ (List.drop p (tl z)) = _
  exact List.take_of_length_le (by rw [List.length_drop, len_tl]; exact Nat.le_refl _)
theorem Word.line {n : Nat} {w : Str} (h : Word n w) (hn : n ≤ 1000) : w.length ≤ 1000 := by rw [len_tl]; exact Nat.le_trans h.le hn
section
variable {f1 f2 f : DE} {G : Gam} {R1 R2 R : Str → Prop}
/-- a text so -/
def IsS (R : Str → Prop) : D → Prop := fun d => ∃ w, d = .str w ∧ R w
theorem IsS.mk {w : Str} (h : R w) : IsS R (.str w) := ⟨w, rfl, h⟩
theorem says_addS (h1 : Says f1 G (IsS R1)) (h2 : Says f2 G (IsS R2)) (hz : ∀ v w, R1 v → R2 w → v.length + w.length ≤ 100000) (z : ∀ v w x, R1 v → R2 w → tl x = tl v ++ tl w → R x) : Says (d2 fAdd f1 f2) G (IsS R) := says_d2 h1 h2 fun d e ⟨v, e1, r1⟩ ⟨w, e2, r2⟩ => by
  subst e1 e2
  exact ⟨.str (v ++ w), by unfold fAdd; simp only; rw [if_pos (line1000 (hz v w r1 r2))], .mk (z v w _ r1 r2 (tl_append v w))⟩
theorem says_let {f : DE} {i : Nat} {Q : Int → Prop} (h : gat G i = some (.str abc)) (hf : Says f G (IsI Q)) (z : ∀ r, Q r → 0 ≤ r ∧ r < 26) : Says (d2 fIdx (dVar i) f) G (IsS fun w => ∃ r, Q r ∧ tl w = [97 + r.toNat]) := says_d2 (says_var h) hf fun d e e1 ⟨r, e2, q⟩ => by
  subst e1 e2
  exact ⟨_, fIdx_abc (z r q).1 (z r q).2, .mk ⟨r, q, rfl⟩⟩
theorem says_cutTo {Q : Int → Prop} {fi : DE} (h1 : Says f G (IsS R1)) (h2 : Says fi G (IsI Q)) (hz : ∀ v, R1 v → v.length ≤ 1000) (z : ∀ v i x, R1 v → Q i → ∃ p : Nat, i = p ∧ p ≤ v.length ∧ (tl x = (tl v).take p → R x)) : Says (dCut f pNo (pAt fi)) G (IsS R) := fun B g => by
  obtain ⟨d, B1, e1, g1, v, rfl, r1⟩ := h1 B g
  obtain ⟨d, B2, e2, g2, i, rfl, q⟩ := h2 B1 g1
  obtain ⟨p, rfl, hp, k⟩ := z v i (cutS v none (some i)) r1 q
  refine ⟨.str (cutS v none (some (p : Int))), B2, ?_, g2, .mk (k (tl_cut_to hp))⟩
  unfold dCut pNo pAt
  rw [e1, Option.bind_some]
  simp only [Option.bind_some, e2]
  unfold fCut
  simp only
  rw [if_pos (line1000 (Nat.le_trans (hz v r1) (by decide)))]; rfl
theorem says_cutFrom {Q : Int → Prop} {fi : DE} (h1 : Says f G (IsS R1)) (h2 : Says fi G (IsI Q)) (hz : ∀ v, R1 v → v.length ≤ 1000) (z : ∀ v i x, R1 v → Q i → ∃ p : Nat, i = p ∧ p ≤ v.length ∧ (tl x = (tl v).drop p → R x)) : Says (dCut f (pAt fi) pNo) G (IsS R) := fun B g => by
  obtain ⟨d, B1, e1, g1, v, rfl, r1⟩ := h1 B g
  obtain ⟨d, B2, e2, g2, i, rfl, q⟩ := h2 B1 g1
  obtain ⟨p, rfl, hp, k⟩ := z v i (cutS v (some i) none) r1 q
  refine ⟨.str (cutS v (some (p : Int)) none), B2, ?_, g2, .mk (k (tl_cut_from hp))⟩
  unfold dCut pNo pAt
  rw [e1, Option.bind_some]
  simp only [Option.bind_some, e2]
  unfold fCut
  simp only
  rw [if_pos (line1000 (Nat.le_trans (hz v r1) (by decide)))]; rfl
end
end Xa
/-! YA7: the def that draws names. -/
namespace Xa
open PySem PySem.Spec PyProof.Rows L2 TL
def nm0 : DS := (sSet 4 (dComp (dRange1 (dVar 1)) [13] (tgName 13) dYes (d2 fIdx (dVar 2) (d2 (fI gMod) (d1 fInt (d2 fAdd (dVar 5) (dVar 13))) (dC (.int 26))))))
def nm1 (T W : FD) : DS := (sThen (sSet 6 (dCall W (dCons (dVar 0) (dCons (dC (.int 11)) dNil))))
  (sThen (sSet 7 (dCall T (dCons (dVar 0) (dCons (d2 fAdd (d1 fLen (dVar 6)) (dC (.int 1))) dNil))))
  (sSet 4 (dComp (dRange1 (dVar 1)) [13] (tgName 13) dYes (d2 fAdd (d2 fAdd (dCut (dVar 6) pNo (pAt (dVar 7))) (d2 fIdx (dVar 2) (d2 (fI gMod) (d1 fInt (d2 fAdd (dVar 5) (dVar 13))) (dC (.int 26))))) (dCut (dVar 6) (pAt (dVar 7)) pNo))))))
def nm2 (T W : FD) : DS := (sThen (sSet 8 (d2 fIdx (dVar 2) (d2 (fI gMod) (d1 fInt (d2 fAdd (d2 fAdd (dVar 5) (dC (.int 1))) (dCall T (dCons (dVar 0) (dCons (dC (.int 25)) dNil))))) (dC (.int 26)))))
  (sThen (sUnpack [9, 10] (dOp semTup (dCons (d2 fAdd (d2 fIdx (dVar 2) (dVar 5)) (dC (.str "abcdefghijk"))) (dCons (d2 fAdd (dVar 8) (d2 fMul (dCall W (dCons (dVar 0) (dCons (dC (.int 1)) dNil))) (dC (.int 11)))) dNil))))
  (sSet 4 (d2 fCatL (dComp (dRange1 (d2 fMin (dC (.int 12)) (dVar 1))) [13] (tgName 13) dYes (dCut (dVar 9) pNo (pAt (d2 fAdd (dVar 13) (dC (.int 1)))))) (dComp (dRange1 (d2 (fI gSub2) (dVar 1) (dC (.int 12)))) [13] (tgName 13) dYes (dCut (dVar 10) pNo (pAt (d2 fAdd (dVar 13) (dC (.int 1))))))))))
def nm3 (S W : FD) : DS := (sThen (sSet 11 (dCall S (dCons (dVar 0) (dCons (dOp semLst (dCons (dC (.int 1)) (dCons (dC (.int 27)) (dCons (dC (.int 101)) (dCons (dC (.int 7)) (dCons (dC (.int 675)) dNil)))))) dNil))))
  (sThen (sSet 12 (dComp (dRange1 (dVar 1)) [13] (tgName 13) dYes (d2 (fI gMod) (d1 fInt (d2 fAdd (d2 fMul (dVar 5) (dC (.int 26))) (d2 fMul (dVar 13) (dVar 11)))) (dC (.int 676)))))
  (sSet 4 (dComp (dItems (dVar 12)) [14] (tgName 14) dYes (d2 fAdd (d2 fAdd (d2 fIdx (dVar 2) (d2 (fI gDiv) (dVar 14) (dC (.int 26)))) (d2 fIdx (dVar 2) (d2 (fI gMod) (d1 fInt (dVar 14)) (dC (.int 26))))) (dCut (dCall W (dCons (dVar 0) (dCons (dC (.int 11)) dNil))) (pAt (dC (.int 1))) pNo))))))
def namesB (T S W M : FD) : DS := (sThen (sUnpack [2, 3, 4] (dOp semTup (dCons (dC (.str "abcdefghijklmnopqrstuvwxyz")) (dCons (dCall T (dCons (dVar 0) (dCons (dC (.int 4)) dNil))) (dCons (dOp semLst dNil) dNil)))))
  (sThen (sSet 5 (dCall T (dCons (dVar 0) (dCons (dC (.int 26)) dNil))))
  (sThen (sIf (asB (d2 fEq (dVar 3) (dC (.int 0)))) nm0 (sIf (asB (d2 fEq (dVar 3) (dC (.int 1)))) (nm1 T W) (sIf (asB (d2 fEq (dVar 3) (dC (.int 2)))) (nm2 T W) (nm3 S W))))
  (sRet (dCall M (dCons (dVar 0) (dCons (dVar 4) dNil)))))))
section
variable {G : Gam} {m : Nat} {first : Int} {R : D → Prop}
/-- what stands in the slots -/
structure NmG (m : Nat) (first : Int) (G : Gam) : Prop where
  len : G.length = 15
  g0 : gat G 0 = some .non
  g1 : gat G 1 = some (.int m)
  g2 : gat G 2 = some (.str abc)
  g5 : gat G 5 = some (.int first)
theorem gat_set {G : Gam} {i : Nat} {d : D} (h : i < G.length) : gat (G.set i (some d)) i = some d := by
  unfold gat
  rw [List.getElem?_set_self h]; rfl
theorem gat_ne {G : Gam} {i j : Nat} {o : Option D} (h : i ≠ j) : gat (G.set i o) j = gat G j := by
  unfold gat
  rw [List.getElem?_set_ne h]
theorem NmG.set {i : Nat} {o : Option D} (h : NmG m first G) (hi : i ≠ 0 ∧ i ≠ 1 ∧ i ≠ 2 ∧ i ≠ 5) : NmG m first (G.set i o) :=
  ⟨by rw [List.length_set]; exact h.len, by rw [gat_ne hi.1]; exact h.g0, by rw [gat_ne hi.2.1]; exact h.g1, by rw [gat_ne hi.2.2.1]; exact h.g2, by rw [gat_ne hi.2.2.2]; exact h.g5⟩
theorem says_addV {i j : Nat} {a b : Int} (h1 : gat G i = some (.int a)) (h2 : gat G j = some (.int b)) : Says (d2 fAdd (dVar i) (dVar j)) G (IsI (· = a + b)) := says_addI (Q1 := (· = a)) (Q2 := (· = b)) (says_vi h1 rfl) (says_vi h2 rfl) fun i j e1 e2 => by rw [e1, e2]
theorem says_m26 {f : DE} {a : Int} (h : Says f G (IsI (· = a))) : Says (d2 (fI gMod) (d1 fInt f) (dC (.int 26))) G (IsI (· = a % 26)) := says_modI (Q1 := (· = a)) (Q2 := (· = 26)) (says_intI h) (says_i rfl) fun i j e1 e2 => by subst e1 e2; exact ⟨by decide, rfl⟩
theorem m26 (a : Int) : 0 ≤ a % 26 ∧ a % 26 < 26 := ⟨Int.emod_nonneg a (by decide), Int.emod_lt_of_pos a (by decide)⟩
theorem word1 {c : Nat} {n : Nat} {w : Str} (h : tl w = [c]) (hc : IsL c) (hn : 1 ≤ n) : Word n w := ⟨by rw [h]; simpa using hc, by rw [h]; simp, by rw [h]; simpa using hn⟩
theorem isL_add {r : Int} (h0 : 0 ≤ r) (h1 : r < 26) : IsL (97 + r.toNat) := ⟨by omega, by omega⟩
theorem does_nm0 (hm : m ≤ 24) (hG : NmG m first G) : Does nm0 G (fun G' => NmG m first G' ∧ ∃ d, gat G' 4 = some d ∧ IsNames m d) R := by
  refine does_set (says_comp0 (PS := (· = rangeD 0 m)) (fun d e => ∃ w, e = D.str w ∧ ∃ i : Int, d = .int i ∧ tl w = [97 + ((first + i) % 26).toNat]) (saysL_range1 (Q := (· = (m : Int))) (says_vi hG.g1 rfl) fun i (e : i = (m : Int)) => by subst e; exact ⟨by omega, rfl⟩) (fun ds e => by subst e; rw [rangeD_len]; exact line1000 (by omega)) fun ds e d hd => ?_) fun d ⟨ds, es, e1, e2, p⟩ => ?_
  · subst e
    obtain ⟨i, rfl, h0, h1⟩ := rangeD_mem hd
    have w1 : wipeG G [13] = G.set 13 none := rfl
    rw [w1]
    have hG' := (hG.set (i := 13) (o := none) (by decide)).set (i := 13) (o := some (.int i)) (by decide)
    refine ⟨_, rfl, ?_⟩
    refine (says_let hG'.g2 (says_m26 (says_addV hG'.g5 (gat_set (by rw [List.length_set, hG.len]; decide)))) fun r e => by subst e; exact m26 _).mono fun d ⟨w, e, r, q, t⟩ => ⟨w, e, i, rfl, by rw [t, q]⟩
  · subst e1 e2
    obtain ⟨ws, rfl, hn, _⟩ := names_of p (fun i w h0 h1 ⟨j, e, t⟩ => word1 t (isL_add (m26 _).1 (m26 _).2) (by decide)) fun i j w a b c d ⟨i', e, t⟩ ⟨j', e', t'⟩ => by
      cases e; cases e'
      rw [t] at t'
      have := (List.cons.inj t').1
      have h1 := m26 (first + i)
      have h2 := m26 (first + j)
      omega
    exact ⟨hG.set (by decide), _, gat_set (by rw [hG.len]; decide), ws, rfl, hn⟩
theorem tells_names_word {T : FD} (hT : Draws T) {G : Gam} {n : Nat} (h : gat G 0 = some .non) (h0 : 0 < n) (h1 : n ≤ 900) : Says (dCall (runD 4 (wordB T (runD 2 (someB T)))) (dCons (dVar 0) (dCons (dC (.int n)) dNil))) G (IsS (Word n)) :=
  says_call (PL := (· = [.non, .int n])) (saysL_cons (says_var h) (saysL_cons (PL' := (· = [.int n])) says_c saysL_nil fun a b ea eb => by rw [ea, eb]) fun a b ea eb => by rw [ea, eb]) fun ds e => by subst e; exact tells_word hT h0 h1
theorem does_nm1 {T : FD} (hT : Draws T) (hm : m ≤ 24) (hG : NmG m first G) : Does (nm1 T (runD 4 (wordB T (runD 2 (someB T))))) G (fun G' => NmG m first G' ∧ ∃ d, gat G' 4 = some d ∧ IsNames m d) R := by
  unfold nm1
  refine does_then (Pm := fun G => NmG m first G ∧ ∃ st, gat G 6 = some (.str st) ∧ Word 11 st) (does_set (tells_names_word hT hG.g0 (n := 11) (by decide) (by decide)) fun d ⟨st, e, hw⟩ => by subst e; exact ⟨hG.set (by decide), st, gat_set (by rw [hG.len]; decide), hw⟩) fun G1 ⟨hG, st, h6, hw⟩ => ?_
  have hl : st.length ≤ 11 := by rw [len_tl]; exact hw.le
  refine does_then (Pm := fun G => NmG m first G ∧ gat G 6 = some (.str st) ∧ ∃ p : Nat, gat G 7 = some (.int p) ∧ p ≤ st.length) (does_set (says_draw hT (m := (st.length : Int) + 1) hG.g0 (says_addI (Q1 := (· = (st.length : Int))) (Q2 := (· = 1)) (says_d1 (says_var h6) fun d e => by subst e; exact ⟨_, by unfold fLen; simp only; rw [if_pos (line1000 (by omega))], .mk rfl⟩) (says_i rfl) fun i j a b => by rw [a, b]) (by omega) (by omega)) fun d ⟨r, e, h0, h1⟩ => by
    subst e
    exact ⟨hG.set (by decide), by rw [gat_ne (by decide)]; exact h6, r.toNat, by rw [gat_set (by rw [hG.len]; decide), Int.toNat_of_nonneg h0], by omega⟩) fun G2 ⟨hG, h6, p, h7, hp⟩ => ?_
  refine does_set (says_comp0 (PS := (· = rangeD 0 m)) (fun d e => ∃ w, e = D.str w ∧ ∃ i : Int, d = .int i ∧ tl w = (tl st).take p ++ [97 + ((first + i) % 26).toNat] ++ (tl st).drop p) (saysL_range1 (Q := (· = (m : Int))) (says_vi hG.g1 rfl) fun i (e : i = (m : Int)) => by subst e; exact ⟨by omega, rfl⟩) (fun ds e => by subst e; rw [rangeD_len]; exact line1000 (by omega)) fun ds e d hd => ?_) fun d ⟨ds, es, e1, e2, pr⟩ => ?_
  · subst e
    obtain ⟨i, rfl, h0, h1⟩ := rangeD_mem hd
    have w1 : wipeG G2 [13] = G2.set 13 none := rfl
    rw [w1]
    have hG' := (hG.set (i := 13) (o := none) (by decide)).set (i := 13) (o := some (.int i)) (by decide)
    refine ⟨_, rfl, ?_⟩
    have q6 : gat ((G2.set 13 none).set 13 (some (.int i))) 6 = some (.str st) := by rw [gat_ne (by decide), gat_ne (by decide)]; exact h6
    have q7 : gat ((G2.set 13 none).set 13 (some (.int i))) 7 = some (.int p) := by rw [gat_ne (by decide), gat_ne (by decide)]; exact h7
    have vS : ∀ {g : Gam}, gat g 6 = some (.str st) → Says (dVar 6) g (IsS (· = st)) := fun h => (says_var h).mono fun d e => by rw [e]; exact .mk rfl
    refine (says_addS (R := fun w => tl w = (tl st).take p ++ [97 + ((first + i) % 26).toNat] ++ (tl st).drop p) (R1 := fun w => tl w = (tl st).take p ++ [97 + ((first + i) % 26).toNat]) (R2 := fun w => tl w = (tl st).drop p) (says_addS (R1 := fun w => tl w = (tl st).take p) (R2 := fun w => tl w = [97 + ((first + i) % 26).toNat]) ?_ ?_ ?_ fun v w x a b c => by rw [c, a, b]) ?_ ?_ fun v w x a b c => by rw [c, a, b]).mono fun d ⟨w, e, t⟩ => ⟨w, e, i, rfl, t⟩
    · exact says_cutTo (Q := (· = (p : Int))) (R1 := (· = st)) (vS q6) (says_vi q7 rfl) (fun v e => by subst e; omega) fun v i x e e2 => by subst e e2; exact ⟨p, rfl, hp, id⟩
    · exact (says_let hG'.g2 (says_m26 (says_addV hG'.g5 (gat_set (by rw [List.length_set, hG.len]; decide)))) fun r e => by subst e; exact m26 _).mono fun d ⟨w, e, r, q, t⟩ => ⟨w, e, by show tl w = _; rw [t, q]⟩
    · intro v w a b
      have l1 : (tl v).length ≤ 11 := by rw [a, List.length_take, ← len_tl]; omega
      have l2 : (tl w).length = 1 := by rw [b]; rfl
      rw [len_tl, len_tl]; omega
    · exact says_cutFrom (Q := (· = (p : Int))) (R1 := (· = st)) (vS q6) (says_vi q7 rfl) (fun v e => by subst e; omega) fun v i x e e2 => by subst e e2; exact ⟨p, rfl, hp, id⟩
    · intro v w a b
      have l1 : (tl v).length ≤ 12 := by rw [a, List.length_append, List.length_take, ← len_tl]; simp; omega
      have l2 : (tl w).length ≤ 11 := by rw [b, List.length_drop, ← len_tl]; omega
      rw [len_tl, len_tl]; omega
  · subst e1 e2
    have hpt : p ≤ (tl st).length := by rw [← len_tl]; exact hp
    have hwd : ∀ (i : Int) (w : Str), tl w = (tl st).take p ++ [97 + ((first + i) % 26).toNat] ++ (tl st).drop p → Word 12 w := fun i w t => by
      refine ⟨fun c hc => ?_, ?_, ?_⟩
      · rw [t] at hc
        rcases List.mem_append.mp hc with hc1 | hc
        · rcases List.mem_append.mp hc1 with hc | hc
          · exact hw.let_ c (List.mem_of_mem_take hc)
          · rw [List.mem_singleton.mp hc]; exact isL_add (m26 _).1 (m26 _).2
        · exact hw.let_ c (List.mem_of_mem_drop hc)
      · rw [t]; simp only [List.length_append, List.length_cons, List.length_nil]; omega
      · have := hw.le
        rw [t]; simp only [List.length_append, List.length_cons, List.length_nil, List.length_take, List.length_drop]; omega
    obtain ⟨ws, rfl, hn, _⟩ := names_of pr (fun i w h0 h1 ⟨j, e, t⟩ => hwd j w t) fun i j w a b c d ⟨i', e, t⟩ ⟨j', e', t'⟩ => by
      cases e; cases e'
      rw [t, List.append_assoc, List.append_assoc] at t'
      have t2 := List.append_cancel_left t'
      have := (List.cons.inj t2).1
      have h1 := m26 (first + i)
      have h2 := m26 (first + j)
      omega
    exact ⟨hG.set (by decide), _, gat_set (by rw [hG.len]; decide), ws, rfl, hn⟩
end
end Xa
/-! YA8: names, the other two kinds. -/
namespace Xa
open PySem PySem.Spec PyProof.Rows L2 TL
theorem foldl_app_list (a : Array Nat) : ∀ (n : Nat) (b : Array Nat), ((List.replicate n a).foldl (· ++ ·) b).toList = b.toList ++ (List.replicate n a.toList).flatten
  | 0, b => by simp
  | n + 1, b => by
    rw [List.replicate_succ, List.foldl_cons, foldl_app_list a n, Array.toList_append, List.replicate_succ, List.flatten_cons, List.append_assoc]
theorem tl_strRep (z : Str) (n : Nat) : tl (strRep z n) = (List.replicate n (tl z)).flatten := by
  show ((List.replicate n z.cps).foldl (· ++ ·) #[]).toList = _
  rw [foldl_app_list]; simp
theorem mem_rep {z : Str} {n c : Nat} (h : c ∈ tl (strRep z n)) : c ∈ tl z := by
  rw [tl_strRep] at h
  obtain ⟨l, h1, h2⟩ := List.mem_flatten.mp h
  rw [(List.mem_replicate.mp h1).2] at h2
  exact h2
theorem rangeD_nat (i : Int) : rangeD 0 i = rangeD 0 ((i.toNat : Nat) : Int) := by
  unfold rangeD
  congr 2
  omega
theorem names_of2 {ds : List D} {Rl : D → Str → Prop} {es : List D} (nd : ds.Nodup) (h : Paired (fun d e => ∃ w, e = D.str w ∧ Rl d w) ds es) (hw : ∀ d ∈ ds, ∀ w, Rl d w → Word 12 w) (inj : ∀ d ∈ ds, ∀ d' ∈ ds, ∀ w, Rl d w → Rl d' w → d = d') : ∃ ws, es = ws.map D.str ∧ Names ds.length ws := by
  obtain ⟨ws, rfl, p⟩ := strs_of2 h
  refine ⟨ws, rfl, ⟨paired_nodup p inj nd, fun w hw' => ?_, (paired_len p).symm⟩⟩
  obtain ⟨a, ha, q⟩ := paired_mem p hw'
  exact hw a ha w q
section
variable {G : Gam} {m : Nat} {first : Int} {R : D → Prop}
def ak : Str := "abcdefghijk"
theorem ak_tl : tl ak = [97, 98, 99, 100, 101, 102, 103, 104, 105, 106, 107] := by
  unfold ak
  rw [tl_ofString]
  decide
/-- a beginning of a text of twelve letters -/
theorem take_word {t : Str} {w : Str} {i : Int} (h0 : 0 ≤ i) (h1 : i < 12) (hl : (tl t).length = 12) (ht : ∀ c ∈ tl t, IsL c) (e : tl w = (tl t).take (i.toNat + 1)) : Word 12 w := by
  refine ⟨fun c hc => ht c (by rw [e] at hc; exact List.mem_of_mem_take hc), ?_, ?_⟩
  · rw [e, List.length_take]; omega
  · rw [e, List.length_take]; omega
/-- x[:at + 1] for at in range(n) -/
theorem says_begins {t : Str} {j : Nat} {n : Nat} {f : DE} {i0 : Int} (hG : G.length = 15) (hj : gat G j = some (.str t)) (hj2 : j ≠ 13) (hl : (tl t).length = 12) (ht : ∀ c ∈ tl t, IsL c) (hf : Says f G (IsI (· = i0))) (hi : i0.toNat = n) (hb : -(2 ^ 62) ≤ i0 ∧ i0 < 2 ^ 62) (hn : n ≤ 12) :
    Says (dComp (dRange1 f) [13] (tgName 13) dYes (dCut (dVar j) pNo (pAt (d2 fAdd (dVar 13) (dC (.int 1)))))) G (fun d => ∃ ws, d = .lst (ws.map D.str) ∧ Names n ws ∧ ∀ w ∈ ws, ∃ i : Nat, tl w = (tl t).take (i + 1)) := by
  refine (says_comp0 (PS := (· = rangeD 0 n)) (fun d e => ∃ w, e = D.str w ∧ ∃ i : Int, d = .int i ∧ 0 ≤ i ∧ tl w = (tl t).take (i.toNat + 1)) (saysL_range1 (Q := (· = i0)) hf fun i (e : i = i0) => by subst e; exact ⟨hb, by rw [rangeD_nat, hi]⟩) (fun ds e => by subst e; rw [rangeD_len]; exact line1000 (by omega)) fun ds e d hd => ?_).mono fun d ⟨ds, es, e1, e2, p⟩ => ?_
  · subst e
    obtain ⟨i, rfl, h0, h1⟩ := rangeD_mem hd
    have w1 : wipeG G [13] = G.set 13 none := rfl
    rw [w1]
    refine ⟨_, rfl, ?_⟩
    have q13 : gat ((G.set 13 none).set 13 (some (.int i))) 13 = some (.int i) := gat_set (by rw [List.length_set, hG]; decide)
    have qj : gat ((G.set 13 none).set 13 (some (.int i))) j = some (.str t) := by rw [gat_ne (Ne.symm hj2), gat_ne (Ne.symm hj2)]; exact hj
    refine (says_cutTo (Q := (· = i + 1)) (R1 := (· = t)) (R := fun w => tl w = (tl t).take (i.toNat + 1)) ((says_var qj).mono fun d e => by rw [e]; exact .mk rfl) (says_addI (Q1 := (· = i)) (Q2 := (· = 1)) (says_vi q13 rfl) (says_i rfl) fun a b ea eb => by rw [ea, eb]) (fun v e => by subst e; rw [len_tl, hl]; decide) fun v k x e e2 => ?_).mono fun d ⟨w, e, tw⟩ => ⟨w, e, i, rfl, h0, tw⟩
    subst e e2
    exact ⟨i.toNat + 1, by omega, by rw [len_tl, hl]; omega, id⟩
  · subst e1 e2
    obtain ⟨ws, rfl, hn', hw⟩ := names_of p (fun i w h0 h1 ⟨k, e, _, tw⟩ => by cases e; exact take_word h0 (by omega) hl ht tw) fun i k w a b c d ⟨i', e, _, tw⟩ ⟨k', e', _, tw'⟩ => by
      cases e; cases e'
      rw [tw] at tw'
      have := congrArg List.length tw'
      rw [List.length_take, List.length_take, hl] at this
      omega
    exact ⟨ws, rfl, hn', fun w hw' => by
      obtain ⟨i, _, _, k, _, _, tw⟩ := hw w hw'
      exact ⟨_, tw⟩⟩
theorem does_nm2 {T : FD} (hT : Draws T) (hm : m ≤ 24) (hf : 0 ≤ first ∧ first < 26) (hG : NmG m first G) : Does (nm2 T (runD 4 (wordB T (runD 2 (someB T))))) G (fun G' => NmG m first G' ∧ ∃ d, gat G' 4 = some d ∧ IsNames m d) R := by
  unfold nm2
  refine does_then (Pm := fun G => NmG m first G ∧ ∃ (w8 : Str) (s : Nat), gat G 8 = some (.str w8) ∧ tl w8 = [97 + s] ∧ s < 26 ∧ (s : Int) ≠ first) (does_set (says_let (Q := fun r => ∃ t, 0 ≤ t ∧ t < 25 ∧ r = (first + 1 + t) % 26) hG.g2 (says_modI (Q1 := fun a => ∃ t, 0 ≤ t ∧ t < 25 ∧ a = first + 1 + t) (Q2 := (· = 26)) (says_intI (says_addI (Q1 := (· = first + 1)) (says_addI (Q1 := (· = first)) (Q2 := (· = 1)) (says_vi hG.g5 rfl) (says_i rfl) fun a b ea eb => by rw [ea, eb]) (says_draw hT (m := 25) hG.g0 (says_i rfl) (by decide) (by decide)) fun i j e ⟨a, b⟩ => ⟨j, a, b, by rw [e]⟩)) (says_i rfl) fun i j ⟨t, a, b, e⟩ e2 => by subst e e2; exact ⟨by decide, t, a, b, rfl⟩) fun r ⟨t, a, b, e⟩ => by subst e; exact m26 _) fun d ⟨w, e, r, ⟨t, a, b, er⟩, tw⟩ => ?_) fun G1 ⟨hG, w8, s, h8, t8, hs, hne⟩ => ?_
  · subst e
    have := m26 (first + 1 + t)
    exact ⟨hG.set (by decide), w, r.toNat, gat_set (by rw [hG.len]; decide), tw, by omega, by omega⟩
  refine does_then (Pm := fun G => NmG m first G ∧ ∃ (one other : Str), gat G 9 = some (.str one) ∧ gat G 10 = some (.str other) ∧ (∃ r, tl one = (97 + first.toNat) :: r) ∧ (∃ r, tl other = (97 + s) :: r) ∧ (tl one).length = 12 ∧ (tl other).length = 12 ∧ (∀ c ∈ tl one, IsL c) ∧ ∀ c ∈ tl other, IsL c) (does_unpack (says_op (PL := fun ds => ∃ one other, ds = [.str one, .str other] ∧ tl one = (97 + first.toNat) :: tl ak ∧ ∃ z : Str, Word 1 z ∧ tl other = (97 + s) :: tl (strRep z 11)) (saysL_cons (P1 := IsS fun w => tl w = (97 + first.toNat) :: tl ak) ?_ (saysL_cons (P1 := IsS fun w => ∃ z : Str, Word 1 z ∧ tl w = (97 + s) :: tl (strRep z 11)) (PL' := fun ds => ∃ other, ds = [.str other] ∧ ∃ z : Str, Word 1 z ∧ tl other = (97 + s) :: tl (strRep z 11)) ?_ saysL_nil fun d ds ⟨w, e, h⟩ e2 => by subst e e2; exact ⟨w, rfl, h⟩) fun d ds ⟨w, e, h⟩ ⟨o, e2, h2⟩ => by subst e e2; exact ⟨w, o, rfl, h, h2⟩) fun ds ⟨one, other, e, h1, z, hz, h2⟩ => ?_)) fun G2 ⟨hG, one, other, h9, h10, a1, a2, a3, a4, a5, a6⟩ => ?_
  · refine says_addS (R1 := fun w => tl w = [97 + first.toNat]) (R2 := (· = ak)) ((says_let (Q := (· = first)) hG.g2 (says_vi hG.g5 rfl) fun r e => by subst e; exact hf).mono fun d ⟨w, e, r, er, tw⟩ => ⟨w, e, by show tl w = _; rw [tw, er]⟩) (says_c.mono fun d e => ⟨_, e, rfl⟩) ?_ fun v w x a b c => by rw [c, a, b]; rfl
    intro v w a b
    rw [len_tl, len_tl, a, b, ak_tl]; simp
  · refine says_addS (R1 := (· = w8)) (R2 := fun x => ∃ z : Str, Word 1 z ∧ x = strRep z 11) ((says_var h8).mono fun d e => ⟨_, e, rfl⟩) (says_d2 (tells_names_word hT hG.g0 (n := 1) (by decide) (by decide)) says_c fun d e ⟨z, e1, hz⟩ e2 => ?_) ?_ fun v w x a ⟨z, hz, b⟩ c => ⟨z, hz, by rw [c, a, b, t8]; rfl⟩
    · subst e1 e2
      have l1 : z.length = 1 := by rw [len_tl]; have := hz.pos; have := hz.le; omega
      exact ⟨.str (strRep z 11), by unfold fMul; simp only; rw [if_pos ⟨by decide, by decide, by omega, by rw [l1]; exact line1000 (by decide), by omega⟩]; rfl, .mk ⟨z, hz, rfl⟩⟩
    · rintro v w rfl ⟨z, hz, rfl⟩
      have l1 : z.length = 1 := by rw [len_tl]; have := hz.pos; have := hz.le; omega
      rw [len_tl, t8, strRep_len, l1]; simp
  · subst e
    refine ⟨.tup [.str one, .str other], by unfold semTup; rw [if_pos (line1000 (by simp))], _, rfl, rfl, (hG.set (by decide)).set (by decide), one, other, ?_, ?_, ⟨_, h1⟩, ⟨_, h2⟩, ?_, ?_, ?_, ?_⟩
    · show gat ((G1.set 9 _).set 10 _) 9 = _
      rw [gat_ne (by decide), gat_set (by rw [hG.len]; decide)]
    · exact gat_set (by rw [List.length_set, hG.len]; decide)
    · rw [h1, ak_tl]; rfl
    · rw [h2, List.length_cons, ← len_tl, strRep_len, len_tl]
      have := hz.pos; have := hz.le; omega
    · intro c hc
      rw [h1] at hc
      rcases List.mem_cons.mp hc with e | e
      · rw [e]; exact isL_add hf.1 hf.2
      · rw [ak_tl] at e
        exact (by decide : ∀ c ∈ [97, 98, 99, 100, 101, 102, 103, 104, 105, 106, 107], IsL c) c e
    · intro c hc
      rw [h2] at hc
      rcases List.mem_cons.mp hc with e | e
      · rw [e]; exact ⟨by omega, by omega⟩
      · exact hz.let_ c (mem_rep e)
  refine does_set (says_d2 (says_begins (n := min 12 m) (i0 := if (m : Int) < 12 then (m : Int) else 12) hG.len h9 (by decide) a3 a5 (says_d2 (P1 := (· = .int 12)) (P2 := (· = .int m)) says_c (says_var hG.g1) fun d e e1 e2 => by subst e1 e2; exact ⟨_, rfl, .mk rfl⟩) (by split <;> omega) (by split <;> omega) (by omega)) (says_begins (n := m - 12) (i0 := (m : Int) - 12) hG.len h10 (by decide) a4 a6 (says_d2 (P1 := (· = .int m)) (P2 := (· = .int 12)) (says_var hG.g1) says_c fun d e e1 e2 => by subst e1 e2; exact ⟨_, rfl, .mk rfl⟩) (by omega) (by omega) (by omega)) (P := IsNames m) ?_) fun d hd => ⟨hG.set (by decide), d, gat_set (by rw [hG.len]; decide), hd⟩
  rintro d e ⟨ws, rfl, n1, h1⟩ ⟨vs, rfl, n2, h2⟩
  obtain ⟨r1, a1⟩ := a1
  obtain ⟨r2, a2⟩ := a2
  refine ⟨.lst (ws.map D.str ++ vs.map D.str), by unfold fCatL; simp only; rw [if_pos (line1000 (by simp [n1.len, n2.len]; omega))], ws ++ vs, by rw [List.map_append], ⟨List.nodup_append.mpr ⟨n1.nd, n2.nd, fun w hw v hv e => ?_⟩, fun w hw => (List.mem_append.mp hw).elim (n1.word w) (n2.word w), by rw [List.length_append, n1.len, n2.len]; omega⟩⟩
  subst e
  obtain ⟨i, ti⟩ := h1 w hw
  obtain ⟨j, tj⟩ := h2 w hv
  rw [a1, List.take_succ_cons] at ti
  rw [a2, List.take_succ_cons, ti] at tj
  have := (List.cons.inj tj).1
  omega
end
end Xa
/-! YA9: names, the last kind; all four. -/
namespace Xa
open PySem PySem.Spec PyProof.Rows L2 TL
section
variable {G : Gam} {m : Nat} {first : Int} {R : D → Prop}
theorem all_strs : ∀ {l : List D}, (∀ x ∈ l, ∃ w, x = D.str w) → ∃ vs : List Str, l = vs.map D.str
  | [], _ => ⟨[], rfl⟩
  | x :: r, h => by
    obtain ⟨w, e⟩ := h x List.mem_cons_self
    obtain ⟨vs, e2⟩ := all_strs (l := r) fun y hy => h y (List.mem_cons_of_mem _ hy)
    exact ⟨w :: vs, by rw [e, e2]; rfl⟩
def codeI (first step i : Int) : Int := (first * 26 + i * step) % 676
theorem code_inj {first step i j : Int} (hs : step = 1 ∨ step = 27 ∨ step = 101 ∨ step = 7 ∨ step = 675) (h0 : 0 ≤ i) (h1 : i < 24) (h2 : 0 ≤ j) (h3 : j < 24) (e : codeI first step i = codeI first step j) : i = j := by
  unfold codeI at e
  rcases hs with rfl | rfl | rfl | rfl | rfl <;> omega
theorem code_bd {first step i : Int} : 0 ≤ codeI first step i ∧ codeI first step i < 676 := ⟨Int.emod_nonneg _ (by decide), Int.emod_lt_of_pos _ (by decide)⟩
theorem does_nm3 {T : FD} (hT : Draws T) (hm : m ≤ 24) (hf : 0 ≤ first ∧ first < 26) (hG : NmG m first G) : Does (nm3 (runD 2 (someB T)) (runD 4 (wordB T (runD 2 (someB T))))) G (fun G' => NmG m first G' ∧ ∃ d, gat G' 4 = some d ∧ IsNames m d) R := by
  unfold nm3
  refine does_then (Pm := fun G => NmG m first G ∧ ∃ step : Int, gat G 11 = some (.int step) ∧ (step = 1 ∨ step = 27 ∨ step = 101 ∨ step = 7 ∨ step = 675)) (does_set (says_call (PL := (· = [.non, .lst [.int 1, .int 27, .int 101, .int 7, .int 675]])) (saysL_cons (says_var hG.g0) (saysL_cons (P1 := (· = .lst [.int 1, .int 27, .int 101, .int 7, .int 675])) (PL' := (· = [.lst [.int 1, .int 27, .int 101, .int 7, .int 675]])) (says_op (PL := (· = [.int 1, .int 27, .int 101, .int 7, .int 675])) (saysL_cons (PL := (· = [.int 27, .int 101, .int 7, .int 675])) says_c (saysL_cons (PL := (· = [.int 101, .int 7, .int 675])) says_c (saysL_cons (PL := (· = [.int 7, .int 675])) says_c (saysL_cons (PL := (· = [.int 675])) says_c (saysL_cons says_c saysL_nil fun a b ea eb => by rw [ea, eb]) fun a b ea eb => by rw [ea, eb]) fun a b ea eb => by rw [ea, eb]) fun a b ea eb => by rw [ea, eb]) fun a b ea eb => by rw [ea, eb]) fun ds e => by subst e; exact ⟨_, by unfold semLst; rw [if_pos (line1000 (by simp))], rfl⟩) saysL_nil fun a b ea eb => by rw [ea, eb]) fun a b ea eb => by rw [ea, eb]) fun ds e => by subst e; exact tells_someL hT (by simp) (by simp)) fun d hd => ?_) fun G1 ⟨hG, step, h11, hs⟩ => ?_
  · have : ∃ step : Int, d = .int step ∧ (step = 1 ∨ step = 27 ∨ step = 101 ∨ step = 7 ∨ step = 675) := by
      simp only [List.mem_cons, List.not_mem_nil, or_false] at hd
      rcases hd with rfl | rfl | rfl | rfl | rfl
      · exact ⟨_, rfl, .inl rfl⟩
      · exact ⟨_, rfl, .inr (.inl rfl)⟩
      · exact ⟨_, rfl, .inr (.inr (.inl rfl))⟩
      · exact ⟨_, rfl, .inr (.inr (.inr (.inl rfl)))⟩
      · exact ⟨_, rfl, .inr (.inr (.inr (.inr rfl)))⟩
    obtain ⟨step, rfl, hs⟩ := this
    exact ⟨hG.set (by decide), step, gat_set (by rw [hG.len]; decide), hs⟩
  refine does_then (Pm := fun G => NmG m first G ∧ ∃ cs : List D, gat G 12 = some (.lst cs) ∧ Paired (fun d e => ∃ i : Int, d = .int i ∧ e = .int (codeI first step i)) (rangeD 0 m) cs) (does_set (says_comp0 (PS := (· = rangeD 0 m)) (fun d e => ∃ i : Int, d = .int i ∧ e = .int (codeI first step i)) (saysL_range1 (Q := (· = (m : Int))) (says_vi hG.g1 rfl) fun i (e : i = (m : Int)) => by subst e; exact ⟨by omega, rfl⟩) (fun ds e => by subst e; rw [rangeD_len]; exact line1000 (by omega)) fun ds e d hd => ?_) fun d ⟨ds, es, e1, e2, p⟩ => by subst e1 e2; exact ⟨hG.set (by decide), es, gat_set (by rw [hG.len]; decide), p⟩) fun G2 ⟨hG, cs, h12, hp⟩ => ?_
  · subst e
    obtain ⟨i, rfl, h0, h1⟩ := rangeD_mem hd
    have w1 : wipeG G1 [13] = G1.set 13 none := rfl
    rw [w1]
    have hG' := (hG.set (i := 13) (o := none) (by decide)).set (i := 13) (o := some (.int i)) (by decide)
    have q13 : gat ((G1.set 13 none).set 13 (some (.int i))) 13 = some (.int i) := gat_set (by rw [List.length_set, hG.len]; decide)
    have q11 : gat ((G1.set 13 none).set 13 (some (.int i))) 11 = some (.int step) := by rw [gat_ne (by decide), gat_ne (by decide)]; exact h11
    refine ⟨_, rfl, ?_⟩
    refine (says_modI (Q1 := (· = first * 26 + i * step)) (Q2 := (· = 676)) (Q := (· = codeI first step i)) (says_intI (says_addI (Q1 := (· = first * 26)) (Q2 := (· = i * step)) (says_mulI (Q1 := (· = first)) (Q2 := (· = 26)) (says_vi hG'.g5 rfl) (says_i rfl) fun a b ea eb => by subst ea eb; exact ⟨.inr (by decide), rfl⟩) (says_mulI (Q1 := (· = i)) (Q2 := (· = step)) (says_vi q13 rfl) (says_vi q11 rfl) fun a b ea eb => by subst ea eb; exact ⟨.inl (by omega), rfl⟩) fun a b ea eb => by rw [ea, eb])) (says_i rfl) fun a b ea eb => by subst ea eb; exact ⟨by decide, rfl⟩).mono fun d ⟨k, e, ek⟩ => ⟨i, rfl, by rw [e, ek]⟩
  · -- the codes are all different
    have hmem : ∀ d ∈ cs, ∃ i : Int, 0 ≤ i ∧ i < m ∧ d = .int (codeI first step i) := fun d hd => by
      obtain ⟨a, ha, i, rfl, e⟩ := paired_mem hp hd
      obtain ⟨i', e', h0, h1⟩ := rangeD_mem ha
      cases e'
      exact ⟨i, h0, h1, e⟩
    have hnd : cs.Nodup := paired_nodup hp (fun a ha a' ha' b ⟨i, e1, e2⟩ ⟨j, e3, e4⟩ => by
      subst e1 e3
      obtain ⟨i', e', h0, h1⟩ := rangeD_mem ha
      cases e'
      obtain ⟨j', e', h2, h3⟩ := rangeD_mem ha'
      cases e'
      rw [e2] at e4
      rw [code_inj hs h0 (by omega) h2 (by omega) (D.int.inj e4)]) rangeD_nodup
    have hlen : cs.length = m := by rw [← paired_len hp, rangeD_len]; omega
    refine does_set (says_comp0 (PS := (· = cs)) (fun d e => ∃ w, e = D.str w ∧ ∃ c : Int, d = .int c ∧ ∃ tail, tl w = (97 + (c / 26).toNat) :: (97 + (c % 26).toNat) :: tail ∧ tail.length ≤ 10 ∧ ∀ x ∈ tail, IsL x) (fun B g => ⟨cs, B, ?_, g, rfl⟩) (fun ds e => by subst e; rw [hlen]; exact line1000 (by omega)) fun ds e d hd => ?_) fun d ⟨ds, es, e1, e2, p⟩ => ?_
    · unfold dItems dVar
      rw [h12]; rfl
    · subst e
      obtain ⟨i, h0, h1, rfl⟩ := hmem d hd
      generalize hc : codeI first step i = c
      have hcb : 0 ≤ c ∧ c < 676 := hc ▸ code_bd
      have w1 : wipeG G2 [14] = G2.set 14 none := rfl
      rw [w1]
      have hG' := (hG.set (i := 14) (o := none) (by decide)).set (i := 14) (o := some (.int c)) (by decide)
      have q14 : gat ((G2.set 14 none).set 14 (some (.int c))) 14 = some (.int c) := gat_set (by rw [List.length_set, hG.len]; decide)
      refine ⟨_, rfl, ?_⟩
      refine (says_addS (R := fun w => ∃ tail, tl w = (97 + (c / 26).toNat) :: (97 + (c % 26).toNat) :: tail ∧ tail.length ≤ 10 ∧ ∀ x ∈ tail, IsL x) (R1 := fun w => tl w = [97 + (c / 26).toNat, 97 + (c % 26).toNat]) (R2 := fun w => (tl w).length ≤ 10 ∧ ∀ x ∈ tl w, IsL x) (says_addS (R1 := fun w => tl w = [97 + (c / 26).toNat]) (R2 := fun w => tl w = [97 + (c % 26).toNat]) ?_ ?_ (fun v w a b => by rw [len_tl, len_tl, a, b]; simp) fun v w x a b e => by rw [e, a, b]; rfl) ?_ (fun v w a b => by rw [len_tl, len_tl, a]; have := b.1; simp only [List.length_cons, List.length_nil]; omega) fun v w x a b e => ⟨tl w, by rw [e, a]; rfl, b.1, b.2⟩).mono fun d ⟨w, e, h⟩ => ⟨w, e, c, rfl, h⟩
      · exact (says_let (Q := (· = c / 26)) hG'.g2 (says_divI (Q1 := (· = c)) (Q2 := (· = 26)) (says_vi q14 rfl) (says_i rfl) fun a b ea eb => by subst ea eb; exact ⟨by decide, rfl⟩) fun r e => by subst e; omega).mono fun d ⟨w, e, r, er, tw⟩ => ⟨w, e, by show tl w = _; rw [tw, er]⟩
      · exact (says_let (Q := (· = c % 26)) hG'.g2 (says_m26 (says_vi q14 rfl)) fun r e => by subst e; exact m26 _).mono fun d ⟨w, e, r, er, tw⟩ => ⟨w, e, by show tl w = _; rw [tw, er]⟩
      · refine says_cutFrom (Q := (· = 1)) (R1 := Word 11) (tells_names_word hT hG'.g0 (n := 11) (by decide) (by decide)) (says_i rfl) (fun v h => h.line (by decide)) fun v k x h e => ⟨1, by rw [e]; rfl, by rw [len_tl]; exact h.pos, fun tx => ⟨?_, ?_⟩⟩
        · rw [tx, List.length_drop]; have := h.le; omega
        · intro y hy
          rw [tx] at hy
          exact h.let_ y (List.mem_of_mem_drop hy)
    · subst e1 e2
      obtain ⟨ws, rfl, hn⟩ := names_of2 hnd p (fun d hd w ⟨c, e, tail, tw, h1, h2⟩ => by
        obtain ⟨i, _, _, e'⟩ := hmem d hd
        rw [e] at e'
        have hcb : 0 ≤ c ∧ c < 676 := by rw [D.int.inj e']; exact code_bd
        refine ⟨fun x hx => ?_, by rw [tw]; simp, by rw [tw]; simp; omega⟩
        rw [tw] at hx
        rcases List.mem_cons.mp hx with e1 | hx
        · rw [e1]; exact isL_add (by omega) (by omega)
        · rcases List.mem_cons.mp hx with e1 | hx
          · rw [e1]; exact isL_add (m26 _).1 (m26 _).2
          · exact h2 x hx) fun d hd d' hd' w ⟨c, e, tail, tw, _⟩ ⟨c', e', tail', tw', _⟩ => by
        obtain ⟨i, _, _, ei⟩ := hmem d hd
        obtain ⟨j, _, _, ej⟩ := hmem d' hd'
        have hcb : 0 ≤ c ∧ c < 676 := by rw [e] at ei; rw [D.int.inj ei]; exact code_bd
        have hcb' : 0 ≤ c' ∧ c' < 676 := by rw [e'] at ej; rw [D.int.inj ej]; exact code_bd
        rw [tw] at tw'
        have h1 := (List.cons.inj tw').1
        have h2 := (List.cons.inj (List.cons.inj tw').2).1
        rw [e, e', show c = c' by omega]
      rw [hlen] at hn
      exact ⟨hG.set (by decide), _, gat_set (by rw [hG.len]; decide), ws, rfl, hn⟩
/-- so many names, no two the same -/
theorem tells_names {T : FD} (hT : Draws T) (h0 : 0 < m) (hm : m ≤ 24) : Tells (runD 15 (namesB T (runD 2 (someB T)) (runD 4 (wordB T (runD 2 (someB T)))) (runD 4 (mixedB T)))) [.non, .int m] (IsNames m) := by
  refine tells_run ?_
  unfold namesB
  have s0 : startG 15 [.non, .int m] = [some .non, some (.int m), none, none, none, none, none, none, none, none, none, none, none, none, none] := rfl
  rw [s0]
  refine does_then (Pm := fun G => ∃ k : Int, G = [some .non, some (.int m), some (.str abc), some (.int k), some (.lst []), none, none, none, none, none, none, none, none, none, none]) (does_unpack (says_op (PL := fun ds => ∃ k : Int, ds = [.str abc, .int k, .lst []]) (saysL_cons (PL := fun ds => ∃ k : Int, ds = [.int k, .lst []]) says_c (saysL_cons (PL := (· = [.lst []])) (says_draw hT (m := 4) rfl (says_i rfl) (by decide) (by decide)) (saysL_cons (P1 := (· = .lst [])) (says_op saysL_nil fun ds e => by subst e; exact ⟨.lst [], by unfold semLst; rw [if_pos (line1000 (by simp))], rfl⟩) saysL_nil fun a b ea eb => by rw [ea, eb]) fun a b ⟨k, ea, _⟩ eb => ⟨k, by rw [ea, eb]⟩) fun a b ea ⟨k, eb⟩ => ⟨k, by rw [ea, eb]; rfl⟩) fun ds ⟨k, e⟩ => ?_)) fun G ⟨k, e⟩ => ?_
  · subst e
    exact ⟨_, by unfold semTup; rw [if_pos (line1000 (by simp))], _, rfl, rfl, k, rfl⟩
  subst e
  refine does_then (Pm := fun G => ∃ first : Int, (0 ≤ first ∧ first < 26) ∧ NmG m first G ∧ gat G 3 = some (.int k)) (does_set (says_draw hT (m := 26) rfl (says_i rfl) (by decide) (by decide)) fun d ⟨r, e, hr⟩ => by subst e; exact ⟨r, hr, ⟨rfl, rfl, rfl, rfl, rfl⟩, rfl⟩) fun G ⟨first, hf, hG, h3⟩ => ?_
  have eqk : ∀ j : Int, SaysT (asB (d2 fEq (dVar 3) (dC (.int j)))) G fun _ => True := fun j => saysT_asB (says_d2 (says_var h3) says_c fun d e e1 e2 => by subst e1 e2; exact ⟨_, rfl, _, rfl, trivial⟩)
  refine does_then (Pm := fun G' => NmG m first G' ∧ ∃ d, gat G' 4 = some d ∧ IsNames m d) (does_if (eqk 0) (fun _ => does_nm0 hm hG) fun _ => does_if (eqk 1) (fun _ => does_nm1 hT hm hG) fun _ => does_if (eqk 2) (fun _ => does_nm2 hT hm hf hG) fun _ => does_nm3 hT hm hf hG) fun G' ⟨hG', d, h4, ws, ed, hn⟩ => ?_
  subst ed
  refine does_ret (says_call (PL := (· = [.non, .lst (ws.map D.str)])) (saysL_cons (says_var hG'.g0) (saysL_cons (PL' := (· = [.lst (ws.map D.str)])) (says_var h4) saysL_nil fun a b ea eb => by rw [ea, eb]) fun a b ea eb => by rw [ea, eb]) fun ds e => ?_)
  subst e
  refine (tells_mixed hT (ds := ws.map D.str) rfl (by rw [List.length_map, hn.len]; omega)).mono fun d ⟨l, e, p⟩ => ?_
  subst e
  -- a permutation of names is one of texts
  have hl : ∀ x ∈ l, ∃ w, x = D.str w := fun x hx => by
    obtain ⟨w, _, e⟩ := List.mem_map.mp (p.mem_iff.mp hx)
    exact ⟨w, e.symm⟩
  obtain ⟨vs, rfl⟩ := all_strs hl
  have inj : ∀ {a b : List Str}, (a.map D.str).Perm (b.map D.str) → a.Perm b := fun {a b} h => by
    have h2 := h.map (fun d => match d with | D.str w => w | _ => "")
    rw [List.map_map, List.map_map] at h2
    have e : ((fun d => match d with | D.str w => w | _ => "") ∘ D.str : Str → Str) = id := rfl
    rw [e, List.map_id, List.map_id] at h2
    exact h2
  have pv := inj p
  exact ⟨vs, rfl, pv.nodup_iff.mpr hn.nd, fun w hw => hn.word w (pv.mem_iff.mp hw), by rw [pv.length_eq, hn.len]⟩
end
end Xa
/-! YB1: sorted. -/
namespace Xa
open PySem PySem.Spec PyProof.Rows L2 TL
theorem sort_two {α : Type} (le : α → α → Bool) (a b : α) : [a, b].mergeSort le = if le a b = true then [a, b] else [b, a] := by
  rw [List.mergeSort]
  simp [List.MergeSort.Internal.splitInTwo, List.merge]
theorem le_str (a b : Str) : PySem.W.dataLe false py (.str a) (.str b) = !sLt b a := by
  rw [PySem.W.dataLe_eq]
  show (!PySem.W.dataLt (.str b) (.str a)) = _
  rw [PySem.W.dataLt_str]; rfl
abbrev Lay (w : Str) : Prop := PyData.canLay0 (.str w) = true
theorem shp_str {w : Str} (h : Lay w) : shp (.str w) = true := by
  show SeqAt.shaped (.str w) = true
  unfold SeqAt.shaped
  rw [h]; rfl
theorem perm_sortD (ds : List D) : (sortD ds).Perm ds := List.mergeSort_perm _ _
theorem okSort_strs (ws : List Str) (hl : ∀ w ∈ ws, Lay w) (h : ws.length ≤ 100000) : okSort (ws.map D.str) = true := by
  unfold okSort
  simp only [Bool.and_eq_true, Bool.or_eq_true, decide_eq_true_eq]
  refine ⟨⟨⟨?_, .inr ?_⟩, ?_⟩, line1000 (by simpa using h)⟩
  · unfold sameKind
    rw [List.all_map]
    refine List.all_eq_true.mpr fun w _ => ?_
    show ((ws.map D.str).all fun e => PySem.W.alike (py (.str w)) (py e)) = true
    rw [List.all_map]
    exact List.all_eq_true.mpr fun v _ => by show PySem.W.alike (.str w) (.str v) = true; rw [PySem.W.alike]
  · rw [List.all_map]; exact List.all_eq_true.mpr fun w _ => rfl
  · rw [List.all_map]; exact List.all_eq_true.mpr fun w hw => shp_str (hl w hw)
theorem sort_strs (ws : List Str) (hl : ∀ w ∈ ws, Lay w) (h : ws.length ≤ 100000) : ∃ vs : List Str, fSorted (.lst (ws.map D.str)) = some (.lst (vs.map D.str)) ∧ vs.Perm ws := by
  have hp := perm_sortD (ws.map D.str)
  obtain ⟨vs, e⟩ := all_strs (l := sortD (ws.map D.str)) fun x hx => by
    obtain ⟨w, _, e⟩ := List.mem_map.mp (hp.mem_iff.mp hx)
    exact ⟨w, e.symm⟩
  refine ⟨vs, by unfold fSorted; simp only; rw [if_pos (okSort_strs ws hl h), e], ?_⟩
  rw [e] at hp
  have h2 := hp.map (fun d => match d with | D.str w => w | _ => "")
  rw [List.map_map, List.map_map] at h2
  have e : ((fun d => match d with | D.str w => w | _ => "") ∘ D.str : Str → Str) = id := rfl
  rw [e, List.map_id, List.map_id] at h2
  exact h2
theorem sort_pair {a b : Str} (ha : Lay a) (hb : Lay b) : fSorted (.lst [.str a, .str b]) = some (.lst (if sLt b a = true then [.str b, .str a] else [.str a, .str b])) := by
  unfold fSorted
  simp only
  show (if okSort ([a, b].map D.str) = true then some (D.lst (sortD [D.str a, D.str b])) else none) = _
  rw [if_pos (okSort_strs [a, b] (fun w hw => by rcases List.mem_cons.mp hw with e | e; exact e ▸ ha; exact (List.mem_singleton.mp e) ▸ hb) (by simp))]
  unfold sortD
  rw [sort_two, le_str]
  cases sLt b a <;> rfl
/-- a section -/
structure Sec where
  a : Str
  b : Str
  s : Str
def Sec.d (x : Sec) : D := .tup [.str x.a, .str x.b, .str x.s]
theorem okSort_secs (xs : List Sec) (hl : ∀ x ∈ xs, Lay x.a ∧ Lay x.b ∧ Lay x.s) (h : xs.length ≤ 100000) : okSort (xs.map Sec.d) = true := by
  unfold okSort
  simp only [Bool.and_eq_true, Bool.or_eq_true, decide_eq_true_eq]
  refine ⟨⟨⟨?_, .inl ?_⟩, ?_⟩, line1000 (by simpa using h)⟩
  · unfold sameKind
    rw [List.all_map]
    refine List.all_eq_true.mpr fun w _ => ?_
    show ((xs.map Sec.d).all fun e => PySem.W.alike (py w.d) (py e)) = true
    rw [List.all_map]
    exact List.all_eq_true.mpr fun v _ => by
      show PySem.W.alike (.tuple [.str w.a, .str w.b, .str w.s]) (.tuple [.str v.a, .str v.b, .str v.s]) = true
      simp [PySem.W.alike, PySem.W.alikeAll]
  · rw [List.all_map]; exact List.all_eq_true.mpr fun w _ => rfl
  · rw [List.all_map]; exact List.all_eq_true.mpr fun w hw => by
      obtain ⟨h1, h2, h3⟩ := hl w hw
      show SeqAt.shaped (.tuple [.str w.a, .str w.b, .str w.s]) = true
      unfold SeqAt.shaped
      have e : PyData.canLay0 (.tuple [.str w.a, .str w.b, .str w.s]) = true := by
        show (PyData.canLay0 (.str w.a) && (PyData.canLay0 (.str w.b) && (PyData.canLay0 (.str w.s) && true))) = true
        rw [h1, h2, h3]; rfl
      rw [e]; rfl
theorem all_secs : ∀ {l : List D}, (∀ x ∈ l, ∃ w : Sec, x = w.d) → ∃ vs : List Sec, l = vs.map Sec.d
  | [], _ => ⟨[], rfl⟩
  | x :: r, h => by
    obtain ⟨w, e⟩ := h x List.mem_cons_self
    obtain ⟨vs, e2⟩ := all_secs (l := r) fun y hy => h y (List.mem_cons_of_mem _ hy)
    exact ⟨w :: vs, by rw [e, e2]; rfl⟩
def undSec : D → Sec
  | .tup [.str a, .str b, .str s] => ⟨a, b, s⟩
  | _ => ⟨"", "", ""⟩
theorem sort_secs (xs : List Sec) (hl : ∀ x ∈ xs, Lay x.a ∧ Lay x.b ∧ Lay x.s) (h : xs.length ≤ 100000) : ∃ vs : List Sec, fSorted (.lst (xs.map Sec.d)) = some (.lst (vs.map Sec.d)) ∧ vs.Perm xs := by
  have hp := perm_sortD (xs.map Sec.d)
  obtain ⟨vs, e⟩ := all_secs (l := sortD (xs.map Sec.d)) fun x hx => by
    obtain ⟨w, _, e⟩ := List.mem_map.mp (hp.mem_iff.mp hx)
    exact ⟨w, e.symm⟩
  refine ⟨vs, by unfold fSorted; simp only; rw [if_pos (okSort_secs xs hl h), e], ?_⟩
  rw [e] at hp
  have h2 := hp.map undSec
  rw [List.map_map, List.map_map] at h2
  have e : (undSec ∘ Sec.d) = id := by funext x; rfl
  rw [e, List.map_id, List.map_id] at h2
  exact h2
end Xa
/-! YB2: a drawn LINE. -/
namespace Xa
open PySem PySem.Spec PyProof.Rows L2 TL
theorem sLt_or {a b : Str} (h : sLt b a = false) (ne : a ≠ b) : sLt a b = true := by
  unfold sLt at h ⊢
  have h1 : tl a ≤ tl b := List.not_lt.mp (of_decide_eq_false h)
  rcases List.le_iff_lt_or_eq.mp h1 with h2 | h2
  · exact decide_eq_true h2
  · exact absurd (ext_tl h2) ne
def Sec.joins (x : Sec) (u v : Str) : Prop := (x.a = u ∧ x.b = v) ∨ (x.a = v ∧ x.b = u)
/-- sections built one by one: each station behind the first is joined to one ahead of it -/
structure Built (sorts : List Str) (ns : List Str) (es : List Sec) : Prop where
  len : es.length ≤ ns.length - 1
  join : ∀ (i : Nat) (x : Sec), es[i]? = some x → ∃ u o v, ns[i + 1]? = some u ∧ o ≤ i ∧ ns[o]? = some v ∧ x.joins u v ∧ sLt x.a x.b = true ∧ x.s ∈ sorts
theorem built_nil {sorts ns : List Str} : Built sorts ns [] := ⟨Nat.zero_le _, fun i x h => by simp at h⟩
theorem Built.snoc {sorts ns : List Str} {es : List Sec} (h : Built sorts ns es) {x : Sec} {u v : Str} {o : Nat} (hu : ns[es.length + 1]? = some u) (ho : o ≤ es.length) (hv : ns[o]? = some v) (hj : x.joins u v) (hl : sLt x.a x.b = true) (hs : x.s ∈ sorts) : Built sorts ns (es ++ [x]) := by
  have := (List.getElem?_eq_some_iff.mp hu).1
  refine ⟨by rw [List.length_append]; simp only [List.length_cons, List.length_nil]; omega, fun i y e => ?_⟩
  by_cases hi : i < es.length
  · rw [List.getElem?_append_left hi] at e
    exact h.join i y e
  · have hi2 : i = es.length := by
      have := (List.getElem?_eq_some_iff.mp e).1
      simp only [List.length_append, List.length_cons, List.length_nil] at this
      omega
    subst hi2
    rw [List.getElem?_append_right (Nat.le_refl _)] at e
    simp at e
    subst e
    exact ⟨u, o, v, hu, ho, hv, hj, hl, hs⟩
theorem word_lay {n : Nat} {w : Str} (h : Word n w) : Lay w := by
  show PyData.strOk w = true
  unfold PyData.strOk
  rw [← Array.all_toList]
  exact List.all_eq_true.mpr fun c hc => decide_eq_true (by have := h.let_ c hc; omega)
/-- a LINE -/
structure LineOf (m : Nat) (sorts : List Str) (ns : List Str) (es : List Sec) (d : D) : Prop where
  eq : d = .tup [.tup (ns.map D.str), .tup (es.map Sec.d)]
  nms : Names m ns
  tree : ∃ ns0 es0, Built sorts ns0 es0 ∧ es0.length = m - 1 ∧ ns.Perm ns0 ∧ es.Perm es0
theorem fIdx_strs {ws : List Str} {i : Nat} {w : Str} (h : ws[i]? = some w) : fIdx (.lst (ws.map D.str)) (.int i) = some (.str w) := by
  show atI (ws.map D.str) (i : Int) = _
  exact atI_nat (by rw [List.getElem?_map, h]; rfl)
/-- sorted([x, y]), of two names -/
theorem says_pair {f1 f2 : DE} {G : Gam} {a b : Str} (h1 : Says f1 G (· = .str a)) (h2 : Says f2 G (· = .str b)) (ha : Lay a) (hb : Lay b) (ne : a ≠ b) : Says (d1 fSorted (dOp semLst (dCons f1 (dCons f2 dNil)))) G (fun d => ∃ x y, d = .lst [.str x, .str y] ∧ ((x = a ∧ y = b) ∨ (x = b ∧ y = a)) ∧ sLt x y = true) := by
  refine says_d1 (P1 := (· = .lst [.str a, .str b])) (says_op (PL := (· = [.str a, .str b])) (saysL_cons (PL := (· = [.str b])) h1 (saysL_cons h2 saysL_nil fun _ _ ea eb => by rw [ea, eb]) fun _ _ ea eb => by rw [ea, eb]) fun ds e => by subst e; exact ⟨_, by unfold semLst; rw [if_pos (line1000 (by simp))], rfl⟩) fun d e => ?_
  subst e
  refine ⟨_, sort_pair ha hb, ?_⟩
  cases h : sLt b a with
  | true => exact ⟨b, a, by rw [if_pos rfl], .inr ⟨rfl, rfl⟩, h⟩
  | false => exact ⟨a, b, by rw [if_neg Bool.false_ne_true], .inl ⟨rfl, rfl⟩, sLt_or h ne⟩
theorem rangeD_get {lo hi : Int} {i : Nat} {d : D} (h : (rangeD lo hi)[i]? = some d) : d = .int (lo + i) ∧ lo + i < hi := by
  have hl := (List.getElem?_eq_some_iff.mp h).1
  rw [rangeD_len] at hl
  unfold rangeD at h
  rw [List.getElem?_map, List.getElem?_range (by omega)] at h
  cases h
  exact ⟨rfl, by omega⟩
theorem saysL_range2 {f1 f2 : DE} {G : Gam} {i j : Int} (h1 : Says f1 G (IsI (· = i))) (h2 : Says f2 G (IsI (· = j))) (b : (-(2 ^ 62) ≤ i ∧ i < 2 ^ 62) ∧ (-(2 ^ 62) ≤ j ∧ j < 2 ^ 62)) : SaysL (dRange2 f1 f2) G (· = rangeD i j) := fun B g => by
  obtain ⟨d, B1, e1, g1, i', rfl, q1⟩ := h1 B g
  obtain ⟨d', B2, e2, g2, j', rfl, q2⟩ := h2 B1 g1
  subst q1 q2
  exact ⟨_, B2, by unfold dRange2; rw [e1, Option.bind_some]; simp only [Option.bind_some, e2]; rw [if_pos ⟨b.1.1, b.1.2, b.2.1, b.2.2⟩], g2, rfl⟩
def lineB (T S Nm : FD) : DS := (sThen (sSets [3, 4, 5] (dCons (dCall Nm (dCons (dVar 0) (dCons (dVar 1) dNil))) (dCons (dOp semLst dNil) (dCons (dCall T (dCons (dVar 0) (dCons (dC (.int 4)) dNil))) dNil))))
  (sThen (sFor (dRange2 (dC (.int 1)) (dVar 1)) (tgName 6) (sThen (sSet 7 (dIf (asB (d2 fEq (dVar 5) (dC (.int 0)))) (d2 (fI gSub2) (dVar 6) (dC (.int 1))) (dIf (asB (d2 fEq (dVar 5) (dC (.int 1)))) (dC (.int 0)) (dCall T (dCons (dVar 0) (dCons (dVar 6) dNil))))))
  (sThen (sUnpackL [8, 9] (d1 fSorted (dOp semLst (dCons (d2 fIdx (dVar 3) (dVar 6)) (dCons (d2 fIdx (dVar 3) (dVar 7)) dNil)))))
  (sMt 4 mAppend (dCons (dOp semTup (dCons (dVar 8) (dCons (dVar 9) (dCons (dCall S (dCons (dVar 0) (dCons (dVar 2) dNil))) dNil)))) dNil)))))
  (sRet (dOp semTup (dCons (d1 fTuple (d1 fSorted (dVar 3))) (dCons (d1 fTuple (d1 fSorted (dOwn 4))) dNil))))))
/-- the slots while a line is drawn -/
structure LnG (m : Nat) (sorts ns : List Str) (k : Int) (es : List Sec) (G : Gam) : Prop where
  len : G.length = 10
  g0 : gat G 0 = some .non
  g1 : gat G 1 = some (.int m)
  g2 : gat G 2 = some (.lst (sorts.map D.str))
  g3 : gat G 3 = some (.lst (ns.map D.str))
  g4 : gat G 4 = some (.lst (es.map Sec.d))
  g5 : gat G 5 = some (.int k)
theorem LnG.set {m : Nat} {sorts ns : List Str} {k : Int} {es : List Sec} {G : Gam} {i : Nat} {o : Option D} (h : LnG m sorts ns k es G) (hi : 6 ≤ i) : LnG m sorts ns k es (G.set i o) :=
  ⟨by rw [List.length_set]; exact h.len, by rw [gat_ne (by omega)]; exact h.g0, by rw [gat_ne (by omega)]; exact h.g1, by rw [gat_ne (by omega)]; exact h.g2, by rw [gat_ne (by omega)]; exact h.g3, by rw [gat_ne (by omega)]; exact h.g4, by rw [gat_ne (by omega)]; exact h.g5⟩
theorem tells_line {T Nm : FD} {m : Nat} {sorts : List Str} (hT : Draws T) (hN : Tells Nm [.non, .int m] (IsNames m)) (h0 : 0 < m) (hm : m ≤ 24) (hs : sorts ≠ []) (hsl : sorts.length ≤ 1000) (hsL : ∀ s ∈ sorts, Lay s) :
    Tells (runD 10 (lineB T (runD 2 (someB T)) Nm)) [.non, .int m, .lst (sorts.map D.str)] (fun d => ∃ ns es, LineOf m sorts ns es d) := by
  refine tells_run ?_
  unfold lineB
  have s0 : startG 10 [.non, .int m, .lst (sorts.map D.str)] = [some .non, some (.int m), some (.lst (sorts.map D.str)), none, none, none, none, none, none, none] := rfl
  rw [s0]
  refine does_then (Pm := fun G => ∃ ns k, Names m ns ∧ LnG m sorts ns k [] G) (does_sets (PL := fun ds => ∃ ns k, Names m ns ∧ ds = [.lst (ns.map D.str), .lst [], .int k]) (saysL_cons (P1 := IsNames m) (PL := fun ds => ∃ k, ds = [.lst [], .int k]) (says_call (PL := (· = [.non, .int m])) (saysL_cons (PL := (· = [.int m])) (says_var rfl) (saysL_cons (says_var rfl) saysL_nil fun _ _ ea eb => by rw [ea, eb]) fun _ _ ea eb => by rw [ea, eb]) fun ds e => by subst e; exact hN) (saysL_cons (P1 := (· = .lst [])) (PL := fun ds => ∃ k, ds = [.int k]) (says_op saysL_nil fun ds e => by subst e; exact ⟨.lst [], by unfold semLst; rw [if_pos (line1000 (by simp))], rfl⟩) (saysL_cons (says_draw hT (m := 4) rfl (says_i rfl) (by decide) (by decide)) saysL_nil fun _ _ ⟨k, ea, _⟩ eb => ⟨k, by rw [ea, eb]⟩) fun _ _ ea ⟨k, eb⟩ => ⟨k, by rw [ea, eb]⟩) fun _ _ ⟨ns, ea, hn⟩ ⟨k, eb⟩ => ⟨ns, k, hn, by rw [ea, eb]⟩) fun ds ⟨ns, k, hn, e⟩ => by subst e; exact ⟨ns, k, hn, ⟨rfl, rfl, rfl, rfl, rfl, rfl, rfl⟩⟩) fun G ⟨ns, k, hn, hG⟩ => ?_
  let In : Nat → Gam → Prop := fun i G => ∃ es, LnG m sorts ns k es G ∧ Built sorts ns es ∧ es.length = i
  refine does_then (Pm := In (m - 1)) (does_for (ds := rangeD 1 m) (Inv := In) (saysL_range2 (says_i rfl) (says_vi hG.g1 rfl) ⟨by decide, by omega⟩) ⟨[], hG, built_nil, rfl⟩ ?_ fun G h => (show ((m : Int) - 1).toNat = m - 1 by omega) ▸ (rangeD_len (lo := 1) (hi := (m : Int)) ▸ h)) fun G ⟨es, hG, hb, hl⟩ => ?_
  · rintro i d G hd ⟨es, hG, hb, hl⟩
    obtain ⟨rfl, hi⟩ := rangeD_get hd
    refine ⟨_, rfl, ?_⟩
    have hG6 := hG.set (i := 6) (o := some (.int (1 + (i : Int)))) (by decide)
    have g6 : gat (G.set 6 (some (.int (1 + (i : Int))))) 6 = some (.int (1 + i)) := gat_set (by rw [hG.len]; decide)
    have im : i + 1 < ns.length := by rw [hn.len]; omega
    have eqk : ∀ {G : Gam} (j : Int), gat G 5 = some (.int k) → SaysT (asB (d2 fEq (dVar 5) (dC (.int j)))) G fun _ => True := fun j h => saysT_asB (says_d2 (says_var h) says_c fun d e e1 e2 => by subst e1 e2; exact ⟨_, rfl, _, rfl, trivial⟩)
    refine does_then (Pm := fun G => LnG m sorts ns k es G ∧ gat G 6 = some (.int (1 + (i : Int))) ∧ ∃ o : Nat, gat G 7 = some (.int o) ∧ o ≤ i) (does_set (P := IsI fun r => 0 ≤ r ∧ r ≤ i) (says_if (eqk 0 hG6.g5) (fun _ => ?_) fun _ => says_if (eqk 1 hG6.g5) (fun _ => says_i ⟨by decide, by omega⟩) fun _ => ?_) fun d ⟨r, e, r0, r1⟩ => ?_) fun G ⟨hG, g6, o, g7, ho⟩ => ?_
    · exact says_d2 (P1 := (· = .int (1 + (i : Int)))) (P2 := (· = .int 1)) (says_var g6) says_c fun d e e1 e2 => by subst e1 e2; exact ⟨_, rfl, .mk ⟨by omega, by omega⟩⟩
    · exact (says_draw hT (m := 1 + (i : Int)) hG6.g0 (says_vi g6 rfl) (by omega) (by omega)).mono fun d ⟨r, e, a, b⟩ => ⟨r, e, a, by omega⟩
    · subst e
      exact ⟨hG6.set (by decide), by rw [gat_ne (by decide)]; exact g6, r.toNat, by rw [gat_set (by rw [hG6.len]; decide), Int.toNat_of_nonneg r0], by omega⟩
    obtain ⟨u, hu⟩ : ∃ u, ns[i + 1]? = some u := ⟨_, List.getElem?_eq_getElem im⟩
    obtain ⟨v, hv⟩ : ∃ v, ns[o]? = some v := ⟨_, List.getElem?_eq_getElem (by omega)⟩
    have hne : u ≠ v := fun e => by
      subst e
      have := (List.getElem?_inj im hn.nd).mp (hu.trans hv.symm)
      omega
    have lay : ∀ {w}, w ∈ ns → Lay w := fun h => word_lay (hn.word _ h)
    refine does_then (Pm := fun G => LnG m sorts ns k es G ∧ ∃ x y, gat G 8 = some (.str x) ∧ gat G 9 = some (.str y) ∧ ((x = u ∧ y = v) ∨ (x = v ∧ y = u)) ∧ sLt x y = true) (does_unpackL ((says_pair (a := u) (b := v) (says_d2 (says_var hG.g3) (says_var g6) fun d e e1 e2 => ?_) (says_d2 (says_var hG.g3) (says_var g7) fun d e e1 e2 => ?_) (lay (List.mem_of_getElem? hu)) (lay (List.mem_of_getElem? hv)) hne).mono fun d ⟨x, y, e, h1, h2⟩ => ?_)) fun G ⟨hG, x, y, g8, g9, hxy, hlt⟩ => ?_
    · subst e1 e2
      refine ⟨_, ?_, rfl⟩
      have e : (1 + (i : Int)) = ((i + 1 : Nat) : Int) := by omega
      rw [e]; exact fIdx_strs hu
    · subst e1 e2
      exact ⟨_, fIdx_strs hv, rfl⟩
    · subst e
      exact ⟨_, rfl, rfl, (hG.set (by decide)).set (by decide), x, y, by show gat ((G.set 8 _).set 9 _) 8 = _; rw [gat_ne (by decide), gat_set (by rw [hG.len]; decide)], gat_set (by rw [List.length_set, hG.len]; decide), h1, h2⟩
    refine does_mt hT (ds := es.map Sec.d) hG.g4 (PL := fun ds => ∃ s, ds = [.tup [.str x, .str y, .str s]] ∧ s ∈ sorts) (saysL_cons (P1 := fun d => ∃ s, d = .tup [.str x, .str y, .str s] ∧ s ∈ sorts) (says_op (PL := fun ds => ∃ s, ds = [.str x, .str y, .str s] ∧ s ∈ sorts) (saysL_cons (PL := fun ds => ∃ s, ds = [.str y, .str s] ∧ s ∈ sorts) (says_var g8) (saysL_cons (PL := fun ds => ∃ s, ds = [.str s] ∧ s ∈ sorts) (says_var g9) (saysL_cons (P1 := fun d => ∃ s, d = .str s ∧ s ∈ sorts) (says_call (PL := (· = [.non, .lst (sorts.map D.str)])) (saysL_cons (PL := (· = [.lst (sorts.map D.str)])) (says_var hG.g0) (saysL_cons (says_var hG.g2) saysL_nil fun _ _ ea eb => by rw [ea, eb]) fun _ _ ea eb => by rw [ea, eb]) fun ds e => by
        subst e
        refine (tells_someL hT (ds := sorts.map D.str) (by simpa using hs) (by rw [List.length_map]; omega)).mono fun d hd => ?_
        obtain ⟨s, h, e⟩ := List.mem_map.mp hd
        exact ⟨s, e.symm, h⟩) saysL_nil fun _ _ ⟨s, ea, h⟩ eb => ⟨s, by rw [ea, eb], h⟩) fun _ _ ea ⟨s, eb, h⟩ => ⟨s, by rw [ea, eb], h⟩) fun _ _ ea ⟨s, eb, h⟩ => ⟨s, by rw [ea, eb], h⟩) fun ds ⟨s, e, h⟩ => by subst e; exact ⟨_, by unfold semTup; rw [if_pos (line1000 (by simp))], s, rfl, h⟩) saysL_nil fun _ _ ⟨s, ea, h⟩ eb => ⟨s, by rw [ea, eb], h⟩) fun ds ⟨s, e, hs'⟩ => ?_
    subst e
    refine ⟨_, .non, by unfold mAppend; simp only; rw [if_pos (Nat.lt_of_lt_of_le (show (es.map Sec.d).length < 1000 by rw [List.length_map]; omega) (line1000 (by decide)))], es ++ [⟨x, y, s⟩], ⟨by rw [List.length_set]; exact hG.len, by rw [gat_ne (by decide)]; exact hG.g0, by rw [gat_ne (by decide)]; exact hG.g1, by rw [gat_ne (by decide)]; exact hG.g2, by rw [gat_ne (by decide)]; exact hG.g3, by rw [gat_set (by rw [hG.len]; decide), List.map_append]; rfl, by rw [gat_ne (by decide)]; exact hG.g5⟩, hb.snoc (x := ⟨x, y, s⟩) (u := u) (v := v) (o := o) (by rw [hl]; exact hu) (by omega) hv hxy hlt hs', by rw [List.length_append, hl]; rfl⟩
  · have lay : ∀ {w}, w ∈ ns → Lay w := fun h => word_lay (hn.word _ h)
    have layE : ∀ x ∈ es, Lay x.a ∧ Lay x.b ∧ Lay x.s := fun x hx => by
      obtain ⟨i, hi⟩ := List.getElem?_of_mem hx
      obtain ⟨u, o, v, hu, _, hv, hj, _, hs'⟩ := hb.join i x hi
      have l1 := lay (List.mem_of_getElem? hu)
      have l2 := lay (List.mem_of_getElem? hv)
      rcases hj with ⟨e1, e2⟩ | ⟨e1, e2⟩
      · exact ⟨e1 ▸ l1, e2 ▸ l2, hsL _ hs'⟩
      · exact ⟨e1 ▸ l2, e2 ▸ l1, hsL _ hs'⟩
    obtain ⟨vs, v1, v2⟩ := sort_strs ns (fun w h => lay h) (by rw [hn.len]; omega)
    obtain ⟨xs, x1, x2⟩ := sort_secs es layE (by omega)
    refine does_ret (says_op (PL := (· = [.tup (vs.map D.str), .tup (xs.map Sec.d)])) (saysL_cons (P1 := (· = .tup (vs.map D.str))) (PL := (· = [.tup (xs.map Sec.d)])) (says_d1 (says_d1 (P := (· = .lst (vs.map D.str))) (says_var hG.g3) fun d e => by subst e; exact ⟨_, v1, rfl⟩) fun d e => by subst e; exact ⟨_, rfl, rfl⟩) (saysL_cons (P1 := (· = .tup (xs.map Sec.d))) (says_d1 (says_d1 (P := (· = .lst (xs.map Sec.d))) (says_own hG.g4) fun d e => by subst e; exact ⟨_, x1, rfl⟩) fun d e => by subst e; exact ⟨_, rfl, rfl⟩) saysL_nil fun _ _ ea eb => by rw [ea, eb]) fun _ _ ea eb => by rw [ea, eb]) fun ds e => ?_)
    subst e
    exact ⟨_, by unfold semTup; rw [if_pos (line1000 (by simp))], vs, xs, rfl, ⟨v2.nodup_iff.mpr hn.nd, fun w hw => hn.word w (v2.mem_iff.mp hw), by rw [v2.length_eq, hn.len]⟩, ns, es, hb, hl, v2, x2⟩
end Xa
/-! YB3: another LINE over the same stations; sorts. -/
namespace Xa
open PySem PySem.Spec PyProof.Rows L2 TL
/-- a list of texts, shown -/
theorem says_strs {G : Gam} {fs : DA} {ws : List Str} (h : SaysL fs G (· = ws.map D.str)) (hl : ws.length ≤ 1000) : Says (dOp semLst fs) G (· = .lst (ws.map D.str)) := says_op h fun ds e => by
  subst e
  exact ⟨_, by unfold semLst; rw [if_pos (line1000 (by rw [List.length_map]; omega))], rfl⟩
theorem saysL_str {G : Gam} {fs : DA} {w : Str} {ws : List Str} (h : SaysL fs G (· = ws.map D.str)) : SaysL (dCons (dC (.str w)) fs) G (· = (w :: ws).map D.str) := saysL_cons says_c h fun _ _ ea eb => by rw [ea, eb]; rfl
theorem saysL_str0 {G : Gam} : SaysL dNil G (· = ([] : List Str).map D.str) := saysL_nil
def overB (T S M : FD) : DS := (sThen (sSets [2, 3] (dCons (dCall M (dCons (dVar 0) (dCons (d1 fList (d2 fIdx (dVar 1) (dC (.int 0)))) dNil))) (dCons (dOp semLst dNil) dNil)))
  (sThen (sFor (dRange2 (dC (.int 1)) (d1 fLen (dVar 2))) (tgName 4) (sThen (sUnpackL [5, 6] (d1 fSorted (dOp semLst (dCons (d2 fIdx (dVar 2) (dVar 4)) (dCons (d2 fIdx (dVar 2) (dCall T (dCons (dVar 0) (dCons (dVar 4) dNil)))) dNil)))))
  (sMt 3 mAppend (dCons (dOp semTup (dCons (dVar 5) (dCons (dVar 6) (dCons (dCall S (dCons (dVar 0) (dCons (dOp semLst (dCons (dC (.str "free")) (dCons (dC (.str "staff")) (dCons (dC (.str "ticket")) dNil)))) dNil))) dNil)))) dNil))))
  (sRet (dOp semTup (dCons (d2 fIdx (dVar 1) (dC (.int 0))) (dCons (d1 fTuple (d1 fSorted (dOwn 3))) dNil))))))
structure OvG (line : D) (ns : List Str) (es : List Sec) (G : Gam) : Prop where
  len : G.length = 7
  g0 : gat G 0 = some .non
  g1 : gat G 1 = some line
  g2 : gat G 2 = some (.lst (ns.map D.str))
  g3 : gat G 3 = some (.lst (es.map Sec.d))
theorem OvG.set {line : D} {ns : List Str} {es : List Sec} {G : Gam} {i : Nat} {o : Option D} (h : OvG line ns es G) (hi : 4 ≤ i) : OvG line ns es (G.set i o) :=
  ⟨by rw [List.length_set]; exact h.len, by rw [gat_ne (by omega)]; exact h.g0, by rw [gat_ne (by omega)]; exact h.g1, by rw [gat_ne (by omega)]; exact h.g2, by rw [gat_ne (by omega)]; exact h.g3⟩
def sorts3 : List Str := ["free", "staff", "ticket"]
theorem lay3 : ∀ s ∈ sorts3, Lay s := by
  intro s hs
  unfold sorts3 at hs
  simp only [List.mem_cons, List.not_mem_nil, or_false] at hs
  rcases hs with rfl | rfl | rfl <;> decide +kernel
theorem perm_strs {l : List D} {ns : List Str} (p : l.Perm (ns.map D.str)) : ∃ vs : List Str, l = vs.map D.str ∧ vs.Perm ns := by
  obtain ⟨vs, rfl⟩ := all_strs (l := l) fun x hx => by
    obtain ⟨w, _, e⟩ := List.mem_map.mp (p.mem_iff.mp hx)
    exact ⟨w, e.symm⟩
  refine ⟨vs, rfl, ?_⟩
  have h2 := p.map (fun d => match d with | D.str w => w | _ => "")
  rw [List.map_map, List.map_map] at h2
  have e : ((fun d => match d with | D.str w => w | _ => "") ∘ D.str : Str → Str) = id := rfl
  rw [e, List.map_id, List.map_id] at h2
  exact h2
theorem tells_over {T : FD} {m : Nat} {ns : List Str} {es : List Sec} {line : D} {sorts : List Str} (hT : Draws T) (hm : m ≤ 24) (hL : LineOf m sorts ns es line) :
    Tells (runD 7 (overB T (runD 2 (someB T)) (runD 4 (mixedB T)))) [.non, line] (fun d => ∃ es', LineOf m sorts3 ns es' d) := by
  have hn := hL.nms
  have idx0 : ∀ {G : Gam}, gat G 1 = some line → Says (d2 fIdx (dVar 1) (dC (.int 0))) G (· = .tup (ns.map D.str)) := fun h => says_d2 (says_var h) says_c fun d e e1 e2 => by
    subst e1 e2
    rw [hL.eq]
    exact ⟨_, atI_nat (j := 0) rfl, rfl⟩
  refine tells_run ?_
  unfold overB
  have s0 : startG 7 [.non, line] = [some .non, some line, none, none, none, none, none] := rfl
  rw [s0]
  refine does_then (Pm := fun G => ∃ vs, vs.Perm ns ∧ OvG line vs [] G) (does_sets (PL := fun ds => ∃ vs : List Str, vs.Perm ns ∧ ds = [.lst (vs.map D.str), .lst []]) (saysL_cons (P1 := fun d => ∃ vs : List Str, vs.Perm ns ∧ d = .lst (vs.map D.str)) (PL := (· = [.lst []])) (says_call (PL := (· = [.non, .lst (ns.map D.str)])) (saysL_cons (PL := (· = [.lst (ns.map D.str)])) (says_var rfl) (saysL_cons (P1 := (· = .lst (ns.map D.str))) (says_d1 (idx0 rfl) fun d e => by subst e; exact ⟨_, rfl, rfl⟩) saysL_nil fun _ _ ea eb => by rw [ea, eb]) fun _ _ ea eb => by rw [ea, eb]) fun ds e => by
      subst e
      refine (tells_mixed hT (ds := ns.map D.str) rfl (by rw [List.length_map, hn.len]; omega)).mono fun d ⟨l, e, p⟩ => ?_
      obtain ⟨vs, rfl, pv⟩ := perm_strs p
      exact ⟨vs, pv, e⟩) (saysL_cons (P1 := (· = .lst [])) (says_op saysL_nil fun ds e => by subst e; exact ⟨.lst [], by unfold semLst; rw [if_pos (line1000 (by simp))], rfl⟩) saysL_nil fun _ _ ea eb => by rw [ea, eb]) fun _ _ ⟨vs, p, ea⟩ eb => ⟨vs, p, by rw [ea, eb]⟩) fun ds ⟨vs, p, e⟩ => by subst e; exact ⟨vs, p, ⟨rfl, rfl, rfl, rfl, rfl⟩⟩) fun G ⟨vs, pv, hG⟩ => ?_
  have vl : vs.length = m := by rw [pv.length_eq, hn.len]
  have vnd : vs.Nodup := pv.nodup_iff.mpr hn.nd
  have lay : ∀ {w}, w ∈ vs → Lay w := fun h => word_lay (hn.word _ (pv.mem_iff.mp h))
  let In : Nat → Gam → Prop := fun i G => ∃ es, OvG line vs es G ∧ Built sorts3 vs es ∧ es.length = i
  refine does_then (Pm := In (m - 1)) (does_for (ds := rangeD 1 m) (Inv := In) (saysL_range2 (says_i rfl) (says_d1 (says_var hG.g2) fun d e => by subst e; exact ⟨_, rfl, .mk (by rw [List.length_map, vl])⟩) ⟨by decide, by omega⟩) ⟨[], hG, built_nil, rfl⟩ ?_ fun G h => (show ((m : Int) - 1).toNat = m - 1 by omega) ▸ (rangeD_len (lo := 1) (hi := (m : Int)) ▸ h)) fun G ⟨es', hG, hb, hl⟩ => ?_
  · rintro i d G hd ⟨es', hG, hb, hl⟩
    obtain ⟨rfl, hi⟩ := rangeD_get hd
    refine ⟨_, rfl, ?_⟩
    have hG6 := hG.set (i := 4) (o := some (.int (1 + (i : Int)))) (by decide)
    have g6 : gat (G.set 4 (some (.int (1 + (i : Int))))) 4 = some (.int (1 + i)) := gat_set (by rw [hG.len]; decide)
    have im : i + 1 < vs.length := by rw [vl]; omega
    obtain ⟨u, hu⟩ : ∃ u, vs[i + 1]? = some u := ⟨_, List.getElem?_eq_getElem im⟩
    refine does_then (Pm := fun G => OvG line vs es' G ∧ ∃ x y v, ∃ o : Nat, o ≤ i ∧ vs[o]? = some v ∧ gat G 5 = some (.str x) ∧ gat G 6 = some (.str y) ∧ ((x = u ∧ y = v) ∨ (x = v ∧ y = u)) ∧ sLt x y = true) (does_unpackL ?_) fun G ⟨hG, x, y, v, o, ho, hv, g8, g9, hxy, hlt⟩ => ?_
    · -- the other one is drawn within
      refine says_d1 (P1 := fun d => ∃ v, ∃ o : Nat, o ≤ i ∧ vs[o]? = some v ∧ d = .lst [.str u, .str v]) (says_op (PL := fun ds => ∃ v, ∃ o : Nat, o ≤ i ∧ vs[o]? = some v ∧ ds = [.str u, .str v]) (saysL_cons (P1 := (· = .str u)) (PL := fun ds => ∃ v, ∃ o : Nat, o ≤ i ∧ vs[o]? = some v ∧ ds = [.str v]) (says_d2 (says_var hG6.g2) (says_var g6) fun d e e1 e2 => ?_) (saysL_cons (P1 := fun d => ∃ v, ∃ o : Nat, o ≤ i ∧ vs[o]? = some v ∧ d = .str v) (says_d2 (says_var hG6.g2) (says_draw hT (m := 1 + (i : Int)) hG6.g0 (says_vi g6 rfl) (by omega) (by omega)) fun d e e1 ⟨r, e2, r0, r1⟩ => ?_) saysL_nil fun _ _ ⟨v, o, a, b, ea⟩ eb => ⟨v, o, a, b, by rw [ea, eb]⟩) fun _ _ ea ⟨v, o, a, b, eb⟩ => ⟨v, o, a, b, by rw [ea, eb]⟩) fun ds ⟨v, o, a, b, e⟩ => by subst e; exact ⟨_, by unfold semLst; rw [if_pos (line1000 (by simp))], v, o, a, b, rfl⟩) fun d ⟨v, o, ho, hv, e⟩ => ?_
      · subst e1 e2
        refine ⟨_, ?_, rfl⟩
        have e : (1 + (i : Int)) = ((i + 1 : Nat) : Int) := by omega
        rw [e]; exact fIdx_strs hu
      · subst e1 e2
        obtain ⟨o, rfl⟩ : ∃ o : Nat, r = o := ⟨r.toNat, by omega⟩
        have hv : vs[o]? = some (vs[o]'(by omega)) := List.getElem?_eq_getElem (by omega)
        exact ⟨_, fIdx_strs hv, _, o, by omega, hv, rfl⟩
      · subst e
        have hne : u ≠ v := fun e => by
          subst e
          have := (List.getElem?_inj im vnd).mp (hu.trans hv.symm)
          omega
        refine ⟨_, sort_pair (lay (List.mem_of_getElem? hu)) (lay (List.mem_of_getElem? hv)), ?_⟩
        have fin : ∀ x y : Str, ((x = u ∧ y = v) ∨ (x = v ∧ y = u)) → sLt x y = true → ∃ ds, D.lst [.str x, .str y] = .lst ds ∧ ds.length = [5, 6].length ∧ OvG line vs es' (setG (G.set 4 (some (.int (1 + (i : Int))))) [5, 6] ds) ∧ ∃ x y v, ∃ o : Nat, o ≤ i ∧ vs[o]? = some v ∧ gat (setG (G.set 4 (some (.int (1 + (i : Int))))) [5, 6] ds) 5 = some (.str x) ∧ gat (setG (G.set 4 (some (.int (1 + (i : Int))))) [5, 6] ds) 6 = some (.str y) ∧ ((x = u ∧ y = v) ∨ (x = v ∧ y = u)) ∧ sLt x y = true := fun x y h1 h2 =>
          ⟨_, rfl, rfl, (hG6.set (by decide)).set (by decide), x, y, v, o, ho, hv, by show gat (((G.set 4 _).set 5 _).set 6 _) 5 = _; rw [gat_ne (by decide), gat_set (by rw [hG6.len]; decide)], gat_set (by rw [List.length_set, hG6.len]; decide), h1, h2⟩
        cases h : sLt v u with
        | true => rw [if_pos rfl]; exact fin v u (.inr ⟨rfl, rfl⟩) h
        | false => rw [if_neg Bool.false_ne_true]; exact fin u v (.inl ⟨rfl, rfl⟩) (sLt_or h hne)
    refine does_mt hT (ds := es'.map Sec.d) hG.g3 (PL := fun ds => ∃ s, ds = [.tup [.str x, .str y, .str s]] ∧ s ∈ sorts3) (saysL_cons (P1 := fun d => ∃ s, d = .tup [.str x, .str y, .str s] ∧ s ∈ sorts3) (says_op (PL := fun ds => ∃ s, ds = [.str x, .str y, .str s] ∧ s ∈ sorts3) (saysL_cons (PL := fun ds => ∃ s, ds = [.str y, .str s] ∧ s ∈ sorts3) (says_var g8) (saysL_cons (PL := fun ds => ∃ s, ds = [.str s] ∧ s ∈ sorts3) (says_var g9) (saysL_cons (P1 := fun d => ∃ s, d = .str s ∧ s ∈ sorts3) (says_call (PL := (· = [.non, .lst (sorts3.map D.str)])) (saysL_cons (PL := (· = [.lst (sorts3.map D.str)])) (says_var hG.g0) (saysL_cons (says_strs (ws := sorts3) (saysL_str (saysL_str (saysL_str saysL_str0))) (by decide)) saysL_nil fun _ _ ea eb => by rw [ea, eb]) fun _ _ ea eb => by rw [ea, eb]) fun ds e => by
        subst e
        refine (tells_someL hT (ds := sorts3.map D.str) (by unfold sorts3; simp) (by unfold sorts3; simp)).mono fun d hd => ?_
        obtain ⟨s, h, e⟩ := List.mem_map.mp hd
        exact ⟨s, e.symm, h⟩) saysL_nil fun _ _ ⟨s, ea, h⟩ eb => ⟨s, by rw [ea, eb], h⟩) fun _ _ ea ⟨s, eb, h⟩ => ⟨s, by rw [ea, eb], h⟩) fun _ _ ea ⟨s, eb, h⟩ => ⟨s, by rw [ea, eb], h⟩) fun ds ⟨s, e, h⟩ => by subst e; exact ⟨_, by unfold semTup; rw [if_pos (line1000 (by simp))], s, rfl, h⟩) saysL_nil fun _ _ ⟨s, ea, h⟩ eb => ⟨s, by rw [ea, eb], h⟩) fun ds ⟨s, e, hs'⟩ => ?_
    subst e
    refine ⟨_, .non, by unfold mAppend; simp only; rw [if_pos (Nat.lt_of_lt_of_le (show (es'.map Sec.d).length < 1000 by rw [List.length_map]; omega) (line1000 (by decide)))], es' ++ [⟨x, y, s⟩], ⟨by rw [List.length_set]; exact hG.len, by rw [gat_ne (by decide)]; exact hG.g0, by rw [gat_ne (by decide)]; exact hG.g1, by rw [gat_ne (by decide)]; exact hG.g2, by rw [gat_set (by rw [hG.len]; decide), List.map_append]; rfl⟩, hb.snoc (x := ⟨x, y, s⟩) (u := u) (v := v) (o := o) (by rw [hl]; exact hu) (by omega) hv hxy hlt hs', by rw [List.length_append, hl]; rfl⟩
  · have layE : ∀ x ∈ es', Lay x.a ∧ Lay x.b ∧ Lay x.s := fun x hx => by
      obtain ⟨i, hi⟩ := List.getElem?_of_mem hx
      obtain ⟨u, o, v, hu, _, hv, hj, _, hs'⟩ := hb.join i x hi
      have l1 := lay (List.mem_of_getElem? hu)
      have l2 := lay (List.mem_of_getElem? hv)
      rcases hj with ⟨e1, e2⟩ | ⟨e1, e2⟩
      · exact ⟨e1 ▸ l1, e2 ▸ l2, lay3 _ hs'⟩
      · exact ⟨e1 ▸ l2, e2 ▸ l1, lay3 _ hs'⟩
    obtain ⟨xs, x1, x2⟩ := sort_secs es' layE (by omega)
    refine does_ret (says_op (PL := (· = [.tup (ns.map D.str), .tup (xs.map Sec.d)])) (saysL_cons (P1 := (· = .tup (ns.map D.str))) (PL := (· = [.tup (xs.map Sec.d)])) (idx0 hG.g1) (saysL_cons (P1 := (· = .tup (xs.map Sec.d))) (says_d1 (says_d1 (P := (· = .lst (xs.map Sec.d))) (says_own hG.g3) fun d e => by subst e; exact ⟨_, x1, rfl⟩) fun d e => by subst e; exact ⟨_, rfl, rfl⟩) saysL_nil fun _ _ ea eb => by rw [ea, eb]) fun _ _ ea eb => by rw [ea, eb]) fun ds e => ?_)
    subst e
    exact ⟨_, by unfold semTup; rw [if_pos (line1000 (by simp))], xs, rfl, hn, vs, es', hb, hl, pv.symm, x2⟩
end Xa
/-! YB4: keys, sections, sorts. -/
namespace Xa
open PySem PySem.Spec PyProof.Rows L2 TL
def mixedSortsB (S : FD) : DS := (sThen (sSet 1 (dOp semLst (dCons (dC (.str "staff")) (dCons (dC (.str "staff")) (dCons (dC (.str "ticket")) (dCons (dC (.str "free")) dNil))))))
  (sRet (dCall S (dCons (dVar 0) (dCons (dOp semLst (dCons (dOp semLst (dCons (dC (.str "staff")) dNil)) (dCons (dVar 1) (dCons (dOp semLst (dCons (dC (.str "ticket")) (dCons (dC (.str "free")) (dCons (dC (.str "staff")) dNil)))) (dCons (dOp semLst (dCons (dC (.str "ticket")) dNil)) (dCons (dOp semLst (dCons (dC (.str "free")) dNil)) dNil)))))) dNil)))))
theorem tells_mixed_sorts {T : FD} (hT : Draws T) : Tells (runD 2 (mixedSortsB (runD 2 (someB T)))) [.non] (fun d => ∃ ss : List Str, d = .lst (ss.map D.str) ∧ ss ≠ [] ∧ ss.length ≤ 4 ∧ ∀ s ∈ ss, s ∈ sorts3) := by
  refine tells_run ?_
  unfold mixedSortsB
  have s0 : startG 2 [.non] = [some .non, none] := rfl
  rw [s0]
  let b4 : List Str := ["staff", "staff", "ticket", "free"]
  refine does_then (Pm := fun G => G = [some .non, some (.lst (b4.map D.str))]) (does_set (says_strs (ws := b4) (saysL_str (saysL_str (saysL_str (saysL_str saysL_str0)))) (by decide)) fun d e => by subst e; rfl) fun G e => ?_
  subst e
  let L : List (List Str) := [["staff"], b4, ["ticket", "free", "staff"], ["ticket"], ["free"]]
  refine does_ret ((says_call (P := (· ∈ L.map fun l => D.lst (l.map D.str))) (PL := (· = [.non, .lst (L.map fun l => D.lst (l.map D.str))])) (saysL_cons (PL := (· = [.lst (L.map fun l => D.lst (l.map D.str))])) (says_var rfl) (saysL_cons (P1 := (· = .lst (L.map fun l => D.lst (l.map D.str)))) (says_op (PL := (· = L.map fun l => D.lst (l.map D.str))) (saysL_cons (PL := (· = [D.lst (b4.map D.str), D.lst ([("ticket" : Str), "free", "staff"].map D.str), D.lst ([("ticket" : Str)].map D.str), D.lst ([("free" : Str)].map D.str)])) (says_strs (ws := ["staff"]) (saysL_str saysL_str0) (by decide)) (saysL_cons (PL := (· = [D.lst ([("ticket" : Str), "free", "staff"].map D.str), D.lst ([("ticket" : Str)].map D.str), D.lst ([("free" : Str)].map D.str)])) (says_var rfl) (saysL_cons (PL := (· = [D.lst ([("ticket" : Str)].map D.str), D.lst ([("free" : Str)].map D.str)])) (says_strs (ws := ["ticket", "free", "staff"]) (saysL_str (saysL_str (saysL_str saysL_str0))) (by decide)) (saysL_cons (PL := (· = [D.lst ([("free" : Str)].map D.str)])) (says_strs (ws := ["ticket"]) (saysL_str saysL_str0) (by decide)) (saysL_cons (says_strs (ws := ["free"]) (saysL_str saysL_str0) (by decide)) saysL_nil fun _ _ ea eb => by rw [ea, eb]) fun _ _ ea eb => by rw [ea, eb]) fun _ _ ea eb => by rw [ea, eb]) fun _ _ ea eb => by rw [ea, eb]) fun _ _ ea eb => by rw [ea, eb]; rfl) fun ds e => by subst e; exact ⟨_, by unfold semLst; rw [if_pos (line1000 (by simp [L]))], rfl⟩) saysL_nil fun _ _ ea eb => by rw [ea, eb]) fun _ _ ea eb => by rw [ea, eb]) fun ds e => by subst e; exact tells_someL hT (by simp [L]) (by simp [L])).mono fun d hd => ?_)
  obtain ⟨l, hl, e⟩ := List.mem_map.mp hd
  refine ⟨l, e.symm, ?_⟩
  simp only [L, b4, List.mem_cons, List.not_mem_nil, or_false] at hl
  have z : ∀ s, s = ("staff" : Str) ∨ s = "ticket" ∨ s = "free" → s ∈ sorts3 := fun s h => by unfold sorts3; rcases h with rfl | rfl | rfl <;> simp
  rcases hl with rfl | rfl | rfl | rfl | rfl <;> refine ⟨by simp, by simp, fun s hs => z s ?_⟩ <;> simp only [List.mem_cons, List.not_mem_nil, or_false] at hs <;> rcases hs with rfl | rfl | rfl | rfl <;> simp
/-! keys -/
def keyD (u v : Str) : D := if sLt u v = true then .tup [.str u, .str v] else .tup [.str v, .str u]
def Sec.key (x : Sec) : D := .tup [.str x.a, .str x.b]
def Sec.has (x : Sec) (u v : Str) : Bool := if sLt u v = true then decide (x.a = u ∧ x.b = v) else decide (x.a = v ∧ x.b = u)
def keyB : DS := (sRet (dIf (asB (d2 fLt (dVar 0) (dVar 1))) (dOp semTup (dCons (dVar 0) (dCons (dVar 1) dNil))) (dOp semTup (dCons (dVar 1) (dCons (dVar 0) dNil)))))
theorem says_tup2 {f1 f2 : DE} {G : Gam} {a b : D} (h1 : Says f1 G (· = a)) (h2 : Says f2 G (· = b)) : Says (dOp semTup (dCons f1 (dCons f2 dNil))) G (· = .tup [a, b]) := says_op (PL := (· = [a, b])) (saysL_cons (PL := (· = [b])) h1 (saysL_cons h2 saysL_nil fun _ _ ea eb => by rw [ea, eb]) fun _ _ ea eb => by rw [ea, eb]) fun ds e => by subst e; exact ⟨_, by unfold semTup; rw [if_pos (line1000 (by simp))], rfl⟩
theorem tells_key {u v : Str} : Tells (runD 2 keyB) [.str u, .str v] (· = keyD u v) := by
  refine tells_run (does_ret (says_if (PT := fun c => c = sLt u v) (saysT_asB (says_d2 (P1 := (· = .str u)) (P2 := (· = .str v)) (says_var rfl) (says_var rfl) fun d e e1 e2 => by subst e1 e2; exact ⟨_, rfl, _, rfl, rfl⟩)) (fun h => ?_) fun h => ?_))
  · unfold keyD; rw [if_pos h.symm]; exact says_tup2 (says_var rfl) (says_var rfl)
  · unfold keyD; rw [if_neg (by rw [← h]; exact Bool.false_ne_true)]; exact says_tup2 (says_var rfl) (says_var rfl)
theorem cut2 (x : Sec) : fCut x.d none (some 2) = some x.key := rfl
theorem shp_pair {a b : Str} (ha : Lay a) (hb : Lay b) : shp (.tup [.str a, .str b]) = true := by
  show SeqAt.shaped (.tuple [.str a, .str b]) = true
  unfold SeqAt.shaped
  have e : PyData.canLay0 (.tuple [.str a, .str b]) = true := by
    show (PyData.canLay0 (.str a) && (PyData.canLay0 (.str b) && true)) = true
    rw [ha, hb]; rfl
  rw [e]; rfl
theorem fEq_pair {a b c d : Str} (ha : Lay a) (hb : Lay b) (hc : Lay c) (hd : Lay d) : fEq (.tup [.str a, .str b]) (.tup [.str c, .str d]) = some (.bl (decide (a = c ∧ b = d))) := by
  show (if shp (.tup [.str a, .str b]) = true ∧ shp (.tup [.str c, .str d]) = true then some (D.bl (PyData.eqv (.tuple [.str a, .str b]) (.tuple [.str c, .str d]))) else none) = _
  rw [if_pos ⟨shp_pair ha hb, shp_pair hc hd⟩]
  congr 2
  simp only [PyData.eqv, PyData.eqvAll, Bool.and_true]
  by_cases h1 : a = c <;> by_cases h2 : b = d <;> simp [h1, h2]
theorem keyD_lay {u v : Str} (hu : Lay u) (hv : Lay v) : ∃ a b, keyD u v = .tup [.str a, .str b] ∧ Lay a ∧ Lay b := by
  unfold keyD
  split
  · exact ⟨u, v, rfl, hu, hv⟩
  · exact ⟨v, u, rfl, hv, hu⟩
theorem fEq_key {x : Sec} {u v : Str} (ha : Lay x.a) (hb : Lay x.b) (hu : Lay u) (hv : Lay v) : fEq x.key (keyD u v) = some (.bl (x.has u v)) := by
  show fEq (.tup [.str x.a, .str x.b]) _ = _
  unfold keyD Sec.has
  split
  · exact fEq_pair ha hb hu hv
  · exact fEq_pair ha hb hv hu
/-! section -/
def sectionB (Ky : FD) : DS := (sThen (sFor (dItems (d2 fIdx (dVar 0) (dC (.int 1)))) (tgName 3) (sIf (asB (d2 fEq (dCut (dVar 3) pNo (pAt (dC (.int 2)))) (dCall Ky (dCons (dVar 1) (dCons (dVar 2) dNil))))) (sRet (dVar 3)) sSkip))
  (sRet (dC .non)))
def secD (es : List Sec) (u v : Str) : D := match es.find? (fun x => x.has u v) with
  | some x => x.d
  | none => .non
theorem says_idx1 {G : Gam} {i : Nat} {ns : D} {es : List Sec} (h : gat G i = some (.tup [ns, .tup (es.map Sec.d)])) : Says (d2 fIdx (dVar i) (dC (.int 1))) G (· = .tup (es.map Sec.d)) := says_d2 (says_var h) says_c fun d e e1 e2 => by
  subst e1 e2
  exact ⟨_, atI_nat (j := 1) rfl, rfl⟩
theorem saysL_items {G : Gam} {f : DE} {d : D} {ds : List D} (h : Says f G (· = d)) (hi : items d = some ds) : SaysL (dItems f) G (· = ds) := fun B g => by
  obtain ⟨d', B1, e1, g1, rfl⟩ := h B g
  exact ⟨ds, B1, by unfold dItems; rw [e1, Option.bind_some]; simp only; rw [hi]; rfl, g1, rfl⟩
theorem says_cut2 {G : Gam} {i : Nat} {x : Sec} (h : gat G i = some x.d) : Says (dCut (dVar i) pNo (pAt (dC (.int 2)))) G (· = x.key) := fun B g => ⟨x.key, B, by
  unfold dCut dVar pNo pAt dC
  rw [h]; rfl, g, rfl⟩
theorem says_call2 {F : FD} {f1 f2 : DE} {G : Gam} {a b : D} {P : D → Prop} (h1 : Says f1 G (· = a)) (h2 : Says f2 G (· = b)) (h : Tells F [a, b] P) : Says (dCall F (dCons f1 (dCons f2 dNil))) G P := says_call (PL := (· = [a, b])) (saysL_cons (PL := (· = [b])) h1 (saysL_cons h2 saysL_nil fun _ _ ea eb => by rw [ea, eb]) fun _ _ ea eb => by rw [ea, eb]) fun ds e => by subst e; exact h
theorem tells_section {ns : D} {es : List Sec} {u v : Str} (hE : ∀ x ∈ es, Lay x.a ∧ Lay x.b) (hu : Lay u) (hv : Lay v) : Tells (runD 4 (sectionB (runD 2 keyB))) [.tup [ns, .tup (es.map Sec.d)], .str u, .str v] (· = secD es u v) := by
  refine tells_run ?_
  unfold sectionB
  generalize hline : (.tup [ns, .tup (es.map Sec.d)] : D) = line
  have s0 : startG 4 [line, .str u, .str v] = [some line, some (.str u), some (.str v), none] := rfl
  rw [s0]
  let In : Nat → Gam → Prop := fun i G => (∃ y, G = [some line, some (.str u), some (.str v), y]) ∧ ∀ x ∈ es.take i, x.has u v = false
  refine does_then (Pm := In es.length) (does_for (ds := es.map Sec.d) (Inv := In) (saysL_items (says_idx1 (ns := ns) (by rw [hline]; rfl)) rfl) ⟨⟨none, rfl⟩, fun x hx => by simp at hx⟩ ?_ fun G h => by rw [List.length_map] at h; exact h) fun G ⟨⟨y, e⟩, h⟩ => ?_
  · rintro i d G hd ⟨⟨y, rfl⟩, hno⟩
    rw [List.getElem?_map] at hd
    cases hx : es[i]? with
    | none => rw [hx] at hd; cases hd
    | some x =>
      rw [hx] at hd; cases hd
      obtain ⟨l1, l2⟩ := hE x (List.mem_of_getElem? hx)
      refine ⟨_, rfl, does_if (PT := fun c => c = x.has u v) (saysT_asB (says_d2 (says_cut2 (x := x) rfl) (says_call2 (says_var (d := .str u) rfl) (says_var (d := .str v) rfl) tells_key) fun d e e1 e2 => by subst e1 e2; exact ⟨_, fEq_key l1 l2 hu hv, _, rfl, rfl⟩)) (fun h => ?_) fun h => ?_⟩
      · refine does_ret ((says_var (d := x.d) rfl).mono fun d e => ?_)
        subst e
        unfold secD
        have hs : es = es.take i ++ x :: es.drop (i + 1) := by
          have hi := (List.getElem?_eq_some_iff.mp hx).1
          have e : x = es[i] := by rw [List.getElem?_eq_getElem hi] at hx; exact (Option.some.inj hx).symm
          rw [e, ← List.drop_eq_getElem_cons hi, List.take_append_drop]
        rw [hs, List.find?_append]
        have h1 : (es.take i).find? (fun x => x.has u v) = none := List.find?_eq_none.mpr fun z hz => by rw [hno z hz]; exact Bool.false_ne_true
        rw [h1, List.find?_cons, ← h]; rfl
      · refine does_skip ⟨⟨_, rfl⟩, fun z hz => ?_⟩
        rw [List.take_add_one, hx] at hz; rcases List.mem_append.mp hz with hz | hz
        · exact hno z hz
        · have : z = x := by simpa using hz
          rw [this]; exact h.symm
  · subst e
    rw [List.take_length] at h
    refine does_ret (says_c.mono fun d e => ?_)
    subst e
    unfold secD
    rw [List.find?_eq_none.mpr fun z hz => by rw [h z hz]; exact Bool.false_ne_true]
end Xa
/-! YB5: keys, the sort, the other end. -/
namespace Xa
open PySem PySem.Spec PyProof.Rows L2 TL
theorem paired_fun {g : D → D} : ∀ {ds es : List D}, Paired (fun d e => e = g d) ds es → es = ds.map g
  | _, _, .nil => rfl
  | _, _, .cons h t => by rw [List.map_cons, ← h, ← paired_fun t]
def keyOfD (d : D) : D := match d with | .tup (a :: b :: _) => .tup [a, b] | _ => .non
def keysB : DS := (sRet (d1 fTuple (dComp (dItems (d2 fIdx (dVar 0) (dC (.int 1)))) [1] (tgName 1) dYes (dCut (dVar 1) pNo (pAt (dC (.int 2)))))))
theorem tells_keys {ns : D} {es : List Sec} (hl : es.length ≤ 1000) : Tells (runD 2 keysB) [.tup [ns, .tup (es.map Sec.d)]] (· = .tup (es.map Sec.key)) := by
  refine tells_run (does_ret (says_d1 (says_comp0 (PS := (· = es.map Sec.d)) (fun d e => e = keyOfD d) (saysL_items (says_idx1 (ns := ns) rfl) rfl) (fun ds e => by subst e; rw [List.length_map]; exact line1000 (by omega)) fun ds e d hd => ?_) fun d ⟨ds, es', e1, e2, p⟩ => ?_))
  · subst e
    obtain ⟨x, _, rfl⟩ := List.mem_map.mp hd
    exact ⟨_, rfl, (says_cut2 (x := x) rfl).mono fun d e => e⟩
  · subst e1 e2
    refine ⟨_, rfl, ?_⟩
    rw [paired_fun p, List.map_map]; rfl
def sortOfB (Sn : FD) : DS := (sRet (d2 fIdx (dCall Sn (dCons (dVar 0) (dCons (d2 fIdx (dVar 1) (dC (.int 0))) (dCons (d2 fIdx (dVar 1) (dC (.int 1))) dNil)))) (dC (.int 2))))
theorem tells_sortOf {Sn : FD} {line : D} {u v : Str} {x : Sec} (h : Tells Sn [line, .str u, .str v] (· = x.d)) : Tells (runD 2 (sortOfB Sn)) [line, .tup [.str u, .str v]] (· = .str x.s) := by
  refine tells_run (does_ret (says_d2 (P1 := (· = x.d)) (P2 := (· = .int 2)) (says_call (PL := (· = [line, .str u, .str v])) (saysL_cons (PL := (· = [.str u, .str v])) (says_var rfl) (saysL_cons (P1 := (· = .str u)) (PL := (· = [.str v])) (says_d2 (says_var (d := .tup [.str u, .str v]) rfl) says_c fun d e e1 e2 => by subst e1 e2; exact ⟨_, atI_nat (j := 0) rfl, rfl⟩) (saysL_cons (P1 := (· = .str v)) (says_d2 (says_var (d := .tup [.str u, .str v]) rfl) says_c fun d e e1 e2 => by subst e1 e2; exact ⟨_, atI_nat (j := 1) rfl, rfl⟩) saysL_nil fun _ _ ea eb => by rw [ea, eb]) fun _ _ ea eb => by rw [ea, eb]) fun _ _ ea eb => by rw [ea, eb]) fun ds e => by subst e; exact h) says_c fun d e e1 e2 => by subst e1 e2; exact ⟨_, atI_nat (j := 2) rfl, rfl⟩))
def otherB : DS := (sRet (dIf (asB (d2 fEq (d2 fIdx (dVar 0) (dC (.int 0))) (dVar 1))) (d2 fIdx (dVar 0) (dC (.int 1))) (d2 fIdx (dVar 0) (dC (.int 0)))))
theorem tells_other {a b w : Str} : Tells (runD 2 otherB) [.tup [.str a, .str b], .str w] (· = .str (if a = w then b else a)) := by
  have i0 : Says (d2 fIdx (dVar 0) (dC (.int 0))) (startG 2 [.tup [.str a, .str b], .str w]) (· = .str a) := says_d2 (says_var (d := .tup [.str a, .str b]) rfl) says_c fun d e e1 e2 => by subst e1 e2; exact ⟨_, atI_nat (j := 0) rfl, rfl⟩
  have i1 : Says (d2 fIdx (dVar 0) (dC (.int 1))) (startG 2 [.tup [.str a, .str b], .str w]) (· = .str b) := says_d2 (says_var (d := .tup [.str a, .str b]) rfl) says_c fun d e e1 e2 => by subst e1 e2; exact ⟨_, atI_nat (j := 1) rfl, rfl⟩
  refine tells_run (does_ret (says_if (PT := fun c => c = decide (a = w)) (saysT_asB (says_d2 i0 (says_var (d := .str w) rfl) fun d e e1 e2 => by subst e1 e2; exact ⟨_, rfl, _, rfl, rfl⟩)) (fun h => ?_) fun h => ?_))
  · rw [if_pos (of_decide_eq_true h.symm)]; exact i1
  · rw [if_neg (of_decide_eq_false h.symm)]; exact i0
end Xa
/-! YB6: neighbours. -/
namespace Xa
open PySem PySem.Spec PyProof.Rows L2 TL
def Sec.at_ (x : Sec) (w : Str) : Bool := decide (x.a = w) || decide (x.b = w)
def Sec.other (x : Sec) (w : Str) : Str := if x.a = w then x.b else x.a
/-- those joined to w, in the order of the sections -/
def nbL (es : List Sec) (w : Str) : List Str := (es.filter (·.at_ w)).map (·.other w)
theorem fIn_key {x : Sec} {w : Str} : fIn (.str w) x.key = some (.bl (x.at_ w)) := by
  show (if okIn (.str w) [.str x.a, .str x.b] = true then some (D.bl (memD (.str w) [.str x.a, .str x.b])) else none) = _
  rw [if_pos (by rfl)]
  congr 2
  show ((PyData.eqv (.str x.a) (.str w)) || ((PyData.eqv (.str x.b) (.str w)) || false)) = _
  unfold Sec.at_
  simp only [PyData.eqv, Bool.or_false]
  by_cases h1 : x.a = w <;> by_cases h2 : x.b = w <;> simp [h1, h2]
def neighboursB (Ks Ot : FD) : DS := (sRet (d1 fTuple (d1 fSorted (dComp (dItems (dCall Ks (dCons (dVar 0) dNil))) [2] (tgName 2) (asB (d2 fIn (dVar 1) (dVar 2))) (dCall Ot (dCons (dVar 2) (dCons (dVar 1) dNil)))))))
def atD (w : Str) (d : D) : Bool := match d with | .tup [.str a, .str b] => decide (a = w) || decide (b = w) | _ => false
def otherD (w : Str) (d : D) : D := match d with | .tup [.str a, .str b] => .str (if a = w then b else a) | _ => .non
theorem tells_neighbours {ns : D} {es : List Sec} {w : Str} (hl : es.length ≤ 1000) (hE : ∀ x ∈ es, Lay x.a ∧ Lay x.b) :
    Tells (runD 3 (neighboursB (runD 2 keysB) (runD 2 otherB))) [.tup [ns, .tup (es.map Sec.d)], .str w] (fun d => ∃ vs : List Str, fSorted (.lst ((nbL es w).map D.str)) = some (.lst (vs.map D.str)) ∧ d = .tup (vs.map D.str)) := by
  have layN : ∀ v ∈ nbL es w, Lay v := fun v hv => by
    obtain ⟨x, hx, rfl⟩ := List.mem_map.mp hv
    obtain ⟨l1, l2⟩ := hE x (List.mem_filter.mp hx).1
    unfold Sec.other
    split
    · exact l2
    · exact l1
  have lenN : (nbL es w).length ≤ 1000 := by
    unfold nbL
    rw [List.length_map]
    exact Nat.le_trans (List.length_filter_le _ _) hl
  obtain ⟨vs, v1, _⟩ := sort_strs (nbL es w) layN (by omega)
  refine tells_run (does_ret (says_d1 (P1 := (· = .lst (vs.map D.str))) (says_d1 (P1 := (· = .lst ((nbL es w).map D.str))) ((says_comp (ds := es.map Sec.key) (atD w) (fun d e => e = otherD w d) (saysL_items (d := .tup (es.map Sec.key)) (says_call (PL := (· = [.tup [ns, .tup (es.map Sec.d)]])) (saysL_cons (says_var rfl) saysL_nil fun _ _ ea eb => by rw [ea, eb]) fun ds e => by subst e; exact tells_keys hl) rfl) (by rw [List.length_map]; exact line1000 (by omega)) fun d hd => ?_).mono fun d ⟨es', e, p⟩ => ?_) fun d e => by subst e; exact ⟨_, v1, rfl⟩) fun d e => by subst e; exact ⟨_, rfl, vs, v1, rfl⟩))
  · obtain ⟨x, _, rfl⟩ := List.mem_map.mp hd
    refine ⟨_, rfl, saysT_asB (says_d2 (P1 := (· = .str w)) (P2 := (· = x.key)) (says_var rfl) (says_var rfl) fun d e e1 e2 => by subst e1 e2; exact ⟨_, fIn_key, _, rfl, rfl⟩), fun _ => ?_⟩
    exact says_call2 (says_var (d := x.key) rfl) (says_var (d := .str w) rfl) tells_other
  · subst e
    rw [paired_fun p]
    congr 1
    unfold nbL
    rw [List.map_map, List.filter_map, List.map_map]; rfl
end Xa
/-! YB7: dicts of lists by station. -/
namespace Xa
open PySem PySem.Spec PyProof.Rows L2 TL
def nearK (ns : List Str) (f : Str → List Str) : List (D × D) := ns.map fun w => (D.str w, D.lst ((f w).map D.str))
theorem keq_str (u v : Str) : keq (.str u) (.str v) = decide (u = v) := by
  rw [show keq (.str u) (.str v) = decide ((Sum.inr u : Key) = Sum.inr v) from keq_kD (.inr u) (.inr v)]
  by_cases h : u = v
  · subst h; simp
  · rw [decide_eq_false h, decide_eq_false (fun e => h (Sum.inr.inj e))]
theorem near_find {f : Str → List Str} {u : Str} : ∀ {ns : List Str}, u ∈ ns → dicFind (nearK ns f) (.str u) = some (.lst ((f u).map D.str))
  | w :: r, h => by
    by_cases e : w = u
    · subst e
      simp [dicFind, nearK, keq_str]
    · have h' : u ∈ r := (List.mem_cons.mp h).resolve_left (Ne.symm e)
      have := near_find (f := f) h'
      simpa [dicFind, nearK, keq_str, e] using this
theorem near_set {f : Str → List Str} {u : Str} {l : List Str} : ∀ {ns : List Str}, ns.Nodup → dicSet1 (nearK ns f) (.str u) (.lst (l.map D.str)) = nearK ns fun w => if w = u then l else f w
  | [], _ => rfl
  | w :: r, nd => by
    obtain ⟨n1, n2⟩ := List.nodup_cons.mp nd; show dicSet1 ((D.str w, D.lst ((f w).map D.str)) :: nearK r f) (.str u) _ = _
    unfold dicSet1
    rw [keq_str]
    by_cases e : w = u
    · subst e
      rw [if_pos (by simp)]
      show _ = (D.str w, D.lst ((if w = w then l else f w).map D.str)) :: nearK r _
      rw [if_pos rfl]
      congr 1
      unfold nearK
      refine List.map_congr_left fun x hx => ?_
      have hne : x ≠ w := fun e => n1 (by rw [← e]; exact hx)
      simp only [if_neg hne]
    · rw [if_neg (by simp [e]), near_set n2]
      show _ = (D.str w, D.lst ((if w = u then l else f w).map D.str)) :: nearK r _
      rw [if_neg e]
theorem near_ok {f : Str → List Str} {ns : List Str} {u : Str} : okK (nearK ns f) (.str u) = true := by
  unfold okK
  cases ns with
  | nil => rfl
  | cons w r => rfl
theorem does_nest {G : Gam} {i : Nat} {ns : List Str} {f : Str → List Str} {fk fv : DE} {u v : Str} {Pn : Gam → Prop} {R : D → Prop} (h : gat G i = some (.dic (nearK ns f))) (nd : ns.Nodup) (hu : u ∈ ns) (h1 : Says fk G (· = .str u)) (h2 : Says fv G (· = .str v)) (hl : (f u).length ≤ 1000)
    (p : Pn (G.set i (some (.dic (nearK ns fun w => if w = u then f u ++ [v] else f w))))) : Does (sNest i fk mAppend (dCons fv dNil)) G Pn R := fun B g => by
  obtain ⟨d, B1, e1, g1, rfl⟩ := h1 B g
  obtain ⟨d, B2, e2, g2, rfl⟩ := h2 B1 g1
  refine ⟨.nx (G.set i (some (.dic (nearK ns fun w => if w = u then f u ++ [v] else f w)))) B2, ?_, g2, p⟩
  unfold sNest dCons dNil
  rw [e1, Option.bind_some]
  simp only [e2, Option.bind_some, h]
  rw [if_pos near_ok, near_find hu, Option.bind_some]
  simp only
  unfold mAppend
  simp only
  rw [if_pos (Nat.lt_of_lt_of_le (show ((f u).map D.str).length < 1001 by rw [List.length_map]; omega) (line1000 (by decide)))]
  show some (Oc.nx (G.set i (some (D.dic (dicSet1 (nearK ns f) (D.str u) (D.lst ((f u).map D.str ++ [D.str v])))))) B2) = _
  rw [show (f u).map D.str ++ [D.str v] = (f u ++ [v]).map D.str by simp, near_set nd]
/-- one more section -/
theorem nbL_snoc {es : List Sec} {x : Sec} (hne : x.a ≠ x.b) : (fun w => if w = x.b then (if x.b = x.a then nbL es x.a ++ [x.b] else nbL es x.b) ++ [x.a] else if w = x.a then nbL es x.a ++ [x.b] else nbL es w) = nbL (es ++ [x]) := by
  funext w
  unfold nbL
  rw [List.filter_append, List.map_append]
  by_cases h1 : w = x.b
  · subst h1
    rw [if_pos rfl, if_neg (Ne.symm hne)]
    congr 1
    simp [List.filter_cons, Sec.at_, Sec.other, hne]
  · rw [if_neg h1]
    by_cases h2 : w = x.a
    · subst h2
      rw [if_pos rfl]
      congr 1
      simp [List.filter_cons, Sec.at_, Sec.other]
    · rw [if_neg h2]
      simp [List.filter_cons, Sec.at_, Ne.symm h1, Ne.symm h2]
end Xa
/-! YB8: both makers of such dicts. -/
namespace Xa
open PySem PySem.Spec PyProof.Rows L2 TL
/-- what the makers ask of the sections -/
def Fits2 (ns : List Str) (es : List Sec) : Prop := ∀ x ∈ es, x.a ∈ ns ∧ x.b ∈ ns ∧ x.a ≠ x.b
theorem near_any {f : Str → List Str} {u : Str} {ns : List Str} (h : u ∉ ns) : ((nearK ns f).any fun q => keq q.1 (.str u)) = false := by
  unfold nearK
  rw [List.any_map]
  refine List.any_eq_false.mpr fun w hw => ?_
  show ¬ keq (.str w) (.str u) = true
  rw [keq_str]
  simp only [decide_eq_true_eq]
  exact fun e => h (e ▸ hw)
theorem dcGo_near {j : Nat} {G : Gam} (hj : j < G.length) : ∀ (r done : List Str) (B : Bag), GoodB B → (done ++ r).Nodup → dcGo (tgName j) dYes (dVar j) (dOp semLst dNil) G (r.map D.str) (nearK done fun _ => []) B = some (nearK (done ++ r) (fun _ => []), B)
  | [], done, B, g, nd => by rw [List.append_nil]; rfl
  | w :: r, done, B, g, nd => by
    have h1 : w ∉ done := fun h => (List.nodup_append.mp nd).2.2 w h w List.mem_cons_self rfl
    have ih := dcGo_near hj r (done ++ [w]) B g (by rw [List.append_assoc]; exact nd)
    rw [List.append_assoc] at ih
    show dcGo (tgName j) dYes (dVar j) (dOp semLst dNil) G (D.str w :: r.map D.str) _ B = _
    unfold dcGo
    have e1 : gat (G.set j (some (D.str w))) j = some (.str w) := gat_set hj
    simp only [tgName, dYes, Option.bind_some, if_true, dVar, e1, Option.map_some, dOp, dNil]
    rw [show semLst [] = some (.lst []) from by unfold semLst; rw [if_pos (line1000 (by simp))]]
    simp only [Option.map_some, Option.bind_some]
    rw [if_pos ⟨rfl, near_any h1⟩]
    rw [show nearK done (fun _ => []) ++ [(D.str w, D.lst [])] = nearK (done ++ [w]) (fun _ => []) from by unfold nearK; rw [List.map_append]; rfl]
    exact ih
def linksB : DS := (sThen (sSet 2 (dDc (dItems (dVar 0)) [4] (tgName 4) dYes (dVar 4) (dOp semLst dNil)))
  (sThen (sFor (dItems (dVar 1)) (tgName 3) (sThen (sNest 2 (d2 fIdx (dVar 3) (dC (.int 0))) mAppend (dCons (d2 fIdx (dVar 3) (dC (.int 1))) dNil))
  (sNest 2 (d2 fIdx (dVar 3) (dC (.int 1))) mAppend (dCons (d2 fIdx (dVar 3) (dC (.int 0))) dNil))))
  (sRet (dVar 2))))
theorem nb_len (es : List Sec) (w : Str) : (nbL es w).length ≤ es.length := by
  unfold nbL
  rw [List.length_map]
  exact List.length_filter_le _ _
theorem take_snoc {es : List Sec} {i : Nat} {x : Sec} (h : es[i]? = some x) : es.take (i + 1) = es.take i ++ [x] := by
  rw [List.take_add_one, h]; rfl
theorem says_at (j : Nat) {G : Gam} {i : Nat} {x : Sec} {u : D} (h : gat G i = some x.d) (hj : [D.str x.a, .str x.b, .str x.s][j]? = some u) : Says (d2 fIdx (dVar i) (dC (.int j))) G (· = u) := says_d2 (says_var h) says_c fun d e e1 e2 => by
  subst e1 e2
  exact ⟨_, atI_nat hj, rfl⟩
theorem tells_links {ns : List Str} {es : List Sec} (nd : ns.Nodup) (hf : Fits2 ns es) (hl : es.length ≤ 900) (hn : ns.length ≤ 900) : Tells (runD 5 linksB) [.tup (ns.map D.str), .tup (es.map Sec.d)] (· = .dic (nearK ns (nbL es))) := by
  refine tells_run ?_
  unfold linksB
  generalize hS : (.tup (ns.map D.str) : D) = S
  generalize hE : (.tup (es.map Sec.d) : D) = E
  have s0 : startG 5 [S, E] = [some S, some E, none, none, none] := rfl
  rw [s0]
  let In : Nat → Gam → Prop := fun i G => ∃ y, G = [some S, some E, some (.dic (nearK ns (nbL (es.take i)))), y, none]
  refine does_then (Pm := In 0) (does_set (P := (· = .dic (nearK ns fun _ => []))) (fun B g => ⟨_, B, ?_, g, rfl⟩) fun d e => by subst e; exact ⟨none, rfl⟩) fun G h => ?_
  · unfold dDc dItems dVar
    show (Option.bind (Option.bind (some (S, B)) fun p => (items p.1).map fun ds => (ds, p.2)) _) = _
    rw [← hS]
    simp only [Option.bind_some, items, Option.map_some]
    rw [if_pos (line1000 (by rw [List.length_map]; omega))]
    have := dcGo_near (j := 4) (G := wipeG [some (.tup (ns.map D.str)), some E, none, none, none] [4]) (by simp [wipeG]) ns [] B g nd
    rw [show (nearK [] fun _ => []) = [] from rfl] at this
    rw [show (dcGo (tgName 4) dYes (fun G B => (gat G 4).map fun d => (d, B)) (dOp semLst dNil) _ (ns.map D.str) [] B) = _ from this]
    rfl
  · obtain ⟨y0, rfl⟩ := h
    refine does_then (Pm := In es.length) (does_for (ds := es.map Sec.d) (Inv := In) (saysL_items (d := E) (says_var rfl) (by rw [← hE]; rfl)) ⟨y0, rfl⟩ ?_ fun G h => by rw [List.length_map] at h; exact h) fun G ⟨y, e⟩ => ?_
    · rintro i d G hd ⟨y, rfl⟩
      rw [List.getElem?_map] at hd
      cases hx : es[i]? with
      | none => rw [hx] at hd; cases hd
      | some x =>
        rw [hx] at hd; cases hd
        obtain ⟨ha, hb, hne⟩ := hf x (List.mem_of_getElem? hx)
        have hll : ∀ w, (nbL (es.take i) w).length ≤ 900 := fun w => Nat.le_trans (nb_len _ _) (by rw [List.length_take]; omega)
        refine ⟨_, rfl, ?_⟩
        refine does_then (Pm := fun G => G = [some S, some E, some (.dic (nearK ns fun w => if w = x.a then nbL (es.take i) x.a ++ [x.b] else nbL (es.take i) w)), some x.d, none]) (does_nest (ns := ns) (f := nbL (es.take i)) (u := x.a) (v := x.b) rfl nd ha (says_at 0 (x := x) rfl rfl) (says_at 1 (x := x) rfl rfl) (Nat.le_trans (hll _) (by decide)) rfl) fun G e => ?_
        subst e
        refine does_nest (ns := ns) (f := fun w => if w = x.a then nbL (es.take i) x.a ++ [x.b] else nbL (es.take i) w) (u := x.b) (v := x.a) rfl nd hb (says_at 1 (x := x) rfl rfl) (says_at 0 (x := x) rfl rfl) (by simp only [if_neg (Ne.symm hne)]; exact Nat.le_trans (hll _) (by decide)) ⟨some x.d, ?_⟩
        have e := nbL_snoc (es := es.take i) hne
        show [some S, some E, some (D.dic (nearK ns _)), some x.d, none] = [some S, some E, some (D.dic (nearK ns (nbL (es.take (i + 1))))), some x.d, none]
        rw [take_snoc hx, ← e]
    · subst e
      rw [List.take_length]
      exact does_ret (says_var rfl)
end Xa
/-! YB9: the law's own dict of neighbours. -/
namespace Xa
open PySem PySem.Spec PyProof.Rows L2 TL
def nearB : DS := (sThen (sSet 1 (dOp (sem1 fDictP) (dCons (dComp (dItems (d2 fIdx (dVar 0) (dC (.int 0)))) [5] (tgName 5) dYes (dOp semTup (dCons (dAtom (dVar 5)) (dCons (dOp semLst dNil) dNil)))) dNil)))
  (sThen (sFor (dItems (d2 fIdx (dVar 0) (dC (.int 1)))) (tgTup [2, 3, 4]) (sThen (sNest 1 (dVar 2) mAppend (dCons (dVar 3) dNil))
  (sNest 1 (dVar 3) mAppend (dCons (dVar 2) dNil))))
  (sRet (dVar 1))))
theorem pairsOf_near : ∀ {ns : List Str}, ns.Nodup → pairsOf (ns.map fun w => D.tup [.str w, .lst []]) = some (nearK ns fun _ => [])
  | [], _ => rfl
  | w :: r, nd => by
    obtain ⟨n1, n2⟩ := List.nodup_cons.mp nd; rw [List.map_cons]
    unfold pairsOf
    rw [if_pos (show (kOf (D.str w)).isSome = true from rfl), pairsOf_near n2, Option.bind_some, near_any n1, if_neg Bool.false_ne_true]
    rfl
theorem tells_near {ns : List Str} {es : List Sec} (nd : ns.Nodup) (hf : Fits2 ns es) (hl : es.length ≤ 900) (hn : ns.length ≤ 900) : Tells (runD 6 nearB) [.tup [.tup (ns.map D.str), .tup (es.map Sec.d)]] (· = .dic (nearK ns (nbL es))) := by
  refine tells_run ?_
  unfold nearB
  generalize hL : (.tup [.tup (ns.map D.str), .tup (es.map Sec.d)] : D) = L
  have s0 : startG 6 [L] = [some L, none, none, none, none, none] := rfl
  rw [s0]
  let In : Nat → Gam → Prop := fun i G => ∃ y2 y3 y4, G = [some L, some (.dic (nearK ns (nbL (es.take i)))), y2, y3, y4, none]
  refine does_then (Pm := In 0) (does_set (P := (· = .dic (nearK ns fun _ => []))) (says_op (PL := (· = [.lst (ns.map fun w => D.tup [.str w, .lst []])])) (saysL_cons (P1 := (· = .lst (ns.map fun w => D.tup [.str w, .lst []]))) ((says_comp0 (PS := (· = ns.map D.str)) (fun d e => e = D.tup [d, .lst []]) (saysL_items (d := .tup (ns.map D.str)) (says_d2 (says_var (d := L) rfl) says_c fun d e e1 e2 => by subst e1 e2; rw [← hL]; exact ⟨_, atI_nat (j := 0) rfl, rfl⟩) rfl) (fun ds e => by subst e; rw [List.length_map]; exact line1000 (by omega)) fun ds e d hd => ?_).mono fun d ⟨ds, es', e1, e2, p⟩ => ?_) saysL_nil fun _ _ ea eb => by rw [ea, eb]) fun ds e => by
      subst e
      exact ⟨_, by show (pairsOf _).map D.dic = _; rw [pairsOf_near nd]; rfl, rfl⟩) fun d e => by subst e; exact ⟨none, none, none, rfl⟩) fun G h => ?_
  · subst e
    obtain ⟨w, _, rfl⟩ := List.mem_map.mp hd
    refine ⟨_, rfl, ?_⟩
    exact says_tup2 (says_atom (says_var rfl) rfl) (says_op saysL_nil fun ds e => by subst e; exact ⟨.lst [], by unfold semLst; rw [if_pos (line1000 (by simp))], rfl⟩)
  · subst e1 e2
    rw [paired_fun p, List.map_map]; rfl
  · obtain ⟨y2, y3, y4, rfl⟩ := h
    refine does_then (Pm := In es.length) (does_for (ds := es.map Sec.d) (Inv := In) (saysL_items (says_idx1 (ns := .tup (ns.map D.str)) (by rw [hL]; rfl)) rfl) ⟨y2, y3, y4, rfl⟩ ?_ fun G h => by rw [List.length_map] at h; exact h) fun G ⟨z2, z3, z4, e⟩ => ?_
    · rintro i d G hd ⟨z2, z3, z4, rfl⟩
      rw [List.getElem?_map] at hd
      cases hx : es[i]? with
      | none => rw [hx] at hd; cases hd
      | some x =>
        rw [hx] at hd; cases hd
        obtain ⟨ha, hb, hne⟩ := hf x (List.mem_of_getElem? hx)
        have hll : ∀ w, (nbL (es.take i) w).length ≤ 900 := fun w => Nat.le_trans (nb_len _ _) (by rw [List.length_take]; omega)
        refine ⟨_, rfl, ?_⟩
        refine does_then (Pm := fun G => G = [some L, some (.dic (nearK ns fun w => if w = x.a then nbL (es.take i) x.a ++ [x.b] else nbL (es.take i) w)), some (.str x.a), some (.str x.b), some (.str x.s), none]) (does_nest (ns := ns) (f := nbL (es.take i)) (u := x.a) (v := x.b) rfl nd ha (says_var rfl) (says_var rfl) (Nat.le_trans (hll _) (by decide)) rfl) fun G e => ?_
        subst e
        refine does_nest (ns := ns) (f := fun w => if w = x.a then nbL (es.take i) x.a ++ [x.b] else nbL (es.take i) w) (u := x.b) (v := x.a) rfl nd hb (says_var rfl) (says_var rfl) (by simp only [if_neg (Ne.symm hne)]; exact Nat.le_trans (hll _) (by decide)) ⟨some (.str x.a), some (.str x.b), some (.str x.s), ?_⟩
        have e := nbL_snoc (es := es.take i) hne
        show [some L, some (D.dic (nearK ns _)), some (D.str x.a), some (D.str x.b), some (D.str x.s), none] = [some L, some (D.dic (nearK ns (nbL (es.take (i + 1))))), some (D.str x.a), some (D.str x.b), some (D.str x.s), none]
        rw [take_snoc hx, ← e]
    · subst e
      rw [List.take_length]
      exact does_ret (says_var rfl)
end Xa
/-! YC1: while, stores, pops; what a LINE has. -/
namespace Xa
open PySem PySem.Spec PyProof.Rows L2 TL
section
variable {u : DT} {body : DS} {G : Gam} {Pn : Gam → Prop} {R : D → Prop}
theorem does_while {Inv : Nat → Gam → Prop} (step : ∀ n G, Inv n G → ∃ c : Bool, SaysT u G (· = c) ∧ (c = true → Does body G (fun G' => ∃ n', n' < n ∧ Inv n' G') R) ∧ (c = false → Pn G)) (n : Nat) (h : Inv n G) : Does (sWhile u body) G Pn R := by
  have go : ∀ (n : Nat) (G : Gam), Inv n G → ∀ B, GoodB B → ∃ k o, whileGo u body k G B = some o ∧ match o with
      | .nx G' B' => GoodB B' ∧ Pn G'
      | .rt d B' => GoodB B' ∧ R d
      | _ => False := by
    intro n; induction n using Nat.strongRecOn with
    | _ n ih =>
      intro G hI B g
      obtain ⟨c, h1, h2, h3⟩ := step n G hI
      obtain ⟨c', B1, e1, g1, rfl⟩ := h1 B g
      cases c' with
      | false => exact ⟨1, .nx G B1, by unfold whileGo; rw [e1]; rfl, g1, h3 rfl⟩
      | true =>
        obtain ⟨o, e2, q⟩ := h2 rfl B1 g1
        cases o with
        | nx G' B' =>
          obtain ⟨g', n', hn, hI'⟩ := q
          obtain ⟨k, o', e3, q'⟩ := ih n' hn G' hI' B' g'
          refine ⟨k + 1, o', ?_, q'⟩
          unfold whileGo
          rw [e1, Option.bind_some]
          simp only [if_true, e2, Option.bind_some]
          exact e3
        | rt d B' => exact ⟨1, .rt d B', by unfold whileGo; rw [e1, Option.bind_some]; simp only [if_true, e2, Option.bind_some], q⟩
        | bk => exact q.elim
        | ct => exact q.elim
  intro B g
  obtain ⟨k, o, e, q⟩ := go n G h B g
  exact ⟨o, sWhile_eq e, q⟩
theorem does_dicPut {i : Nat} {kvs : List (D × D)} {fk fv : DE} {k v : D} (h : gat G i = some (.dic kvs)) (h1 : Says fv G (· = v)) (h2 : Says fk G (· = k)) (ok : okK kvs k = true) (hl : kvs.length < 1000) (p : Pn (G.set i (some (.dic (dicPut kvs k v))))) : Does (sDicPut i fk fv) G Pn R := fun B g => by
  obtain ⟨d, B1, e1, g1, rfl⟩ := h1 B g
  obtain ⟨d', B2, e2, g2, rfl⟩ := h2 B1 g1
  refine ⟨.nx (G.set i (some (.dic (dicPut kvs d' d)))) B2, ?_, g2, p⟩
  unfold sDicPut
  rw [e1, Option.bind_some]
  simp only [e2, Option.bind_some, h]
  rw [if_pos ⟨ok, Nat.lt_of_lt_of_le hl (line1000 (by decide))⟩]
theorem does_mtSet {i j : Nat} {fm : List D → List D → Option (List D × D)} {fs : DA} {ds ds' es : List D} {d : D} (h : gat G i = some (.lst ds)) (hf : SaysL fs G (· = es)) (e : fm ds es = some (ds', d)) (p : Pn ((G.set i (some (.lst ds'))).set j (some d))) : Does (sMtSet j i fm fs) G Pn R := fun B g => by
  obtain ⟨es', B1, e1, g1, rfl⟩ := hf B g
  exact ⟨.nx ((G.set i (some (.lst ds'))).set j (some d)) B1, by unfold sMtSet dMt; rw [e1, Option.bind_some, h, Option.bind_some]; simp only; rw [e]; rfl, g1, p⟩
theorem mPop_snoc (l : List D) (d : D) : mPop (l ++ [d]) [] = some (l, d) := by
  unfold mPop
  simp
theorem mPopAt_cons (l : List D) (d : D) (h : l.length < 100000) : mPopAt (d :: l) [.int 0] = some (l, d) := by
  unfold mPopAt
  simp only
  rw [if_pos ⟨by decide, by decide⟩]
  have e : seqIndex? 0 (d :: l).length = some 0 := by
    unfold seqIndex?
    simp
  rw [e]
  rfl
end
theorem sLt_irrefl (a : Str) : sLt a a = false := decide_eq_false (List.lt_irrefl _)
section
variable {m : Nat} {sorts ns : List Str} {es : List Sec} {d : D}
theorem LineOf.fits (h : LineOf m sorts ns es d) : Fits2 ns es := fun x hx => by
  obtain ⟨ns0, es0, hb, _, p1, p2⟩ := h.tree
  obtain ⟨i, hi⟩ := List.getElem?_of_mem (p2.mem_iff.mp hx)
  obtain ⟨u, o, v, hu, _, hv, hj, hlt, _⟩ := hb.join i x hi
  have mu := p1.mem_iff.mpr (List.mem_of_getElem? hu)
  have mv := p1.mem_iff.mpr (List.mem_of_getElem? hv)
  have ne : x.a ≠ x.b := fun e => by rw [e, sLt_irrefl] at hlt; cases hlt
  rcases hj with ⟨e1, e2⟩ | ⟨e1, e2⟩
  · exact ⟨e1 ▸ mu, e2 ▸ mv, ne⟩
  · exact ⟨e1 ▸ mv, e2 ▸ mu, ne⟩
theorem LineOf.lt (h : LineOf m sorts ns es d) : ∀ x ∈ es, sLt x.a x.b = true ∧ x.s ∈ sorts := fun x hx => by
  obtain ⟨ns0, es0, hb, _, p1, p2⟩ := h.tree
  obtain ⟨i, hi⟩ := List.getElem?_of_mem (p2.mem_iff.mp hx)
  obtain ⟨u, o, v, hu, _, hv, hj, hlt, hs⟩ := hb.join i x hi
  exact ⟨hlt, hs⟩
theorem LineOf.layN (h : LineOf m sorts ns es d) : ∀ w ∈ ns, Lay w := fun w hw => word_lay (h.nms.word w hw)
theorem LineOf.layE (h : LineOf m sorts ns es d) : ∀ x ∈ es, Lay x.a ∧ Lay x.b := fun x hx => ⟨h.layN _ (h.fits x hx).1, h.layN _ (h.fits x hx).2.1⟩
theorem LineOf.elen (h : LineOf m sorts ns es d) : es.length = m - 1 := by
  obtain ⟨ns0, es0, hb, hl, p1, p2⟩ := h.tree
  rw [p2.length_eq, hl]
end
end Xa
/-! YC2: a LINE hangs together. -/
namespace Xa
open PySem PySem.Spec PyProof.Rows L2 TL
section
variable {m : Nat} {sorts ns : List Str} {es : List Sec} {d : D}
/-- a set that no section leaves has all stations or none -/
theorem LineOf.conn {S : Str → Prop} (h : LineOf m sorts ns es d) (cl : ∀ x ∈ es, S x.a ↔ S x.b) {u : Str} (hu : u ∈ ns) (su : S u) : ∀ v ∈ ns, S v := by
  obtain ⟨ns0, es0, hb, hl, p1, p2⟩ := h.tree
  have len0 : ns0.length = m := by rw [← p1.length_eq, h.nms.len]
  have all0 : ∀ (j : Nat) (w z : Str), ns0[j]? = some w → ns0[0]? = some z → (S w ↔ S z) := by
    intro j
    induction j using Nat.strongRecOn with
    | _ j ih =>
      intro w z hw hz
      cases j with
      | zero => rw [hz] at hw; cases hw; exact Iff.rfl
      | succ i =>
        have hj := (List.getElem?_eq_some_iff.mp hw).1
        have hi : i < es0.length := by omega
        obtain ⟨u', o, v', hu', ho, hv', hjn, _, _⟩ := hb.join i es0[i] (List.getElem?_eq_getElem hi)
        rw [hw] at hu'
        cases hu'
        have e := cl _ (p2.mem_iff.mpr (List.getElem_mem hi))
        have e2 := ih o (by omega) v' z hv' hz
        rcases hjn with ⟨a, b⟩ | ⟨a, b⟩ <;> rw [a, b] at e
        · exact e.trans e2
        · exact e.symm.trans e2
  have pos : 0 < ns0.length := List.length_pos_iff.mpr fun e => by
    have := p1.mem_iff.mp hu
    rw [e] at this; cases this
  have h0 : ns0[0]? = some ns0[0] := List.getElem?_eq_getElem pos
  obtain ⟨i, hi⟩ := List.getElem?_of_mem (p1.mem_iff.mp hu)
  have s0 : S ns0[0] := (all0 i u _ hi h0).mp su
  intro v hv
  obtain ⟨j, hj⟩ := List.getElem?_of_mem (p1.mem_iff.mp hv)
  exact (all0 j v _ hj h0).mpr s0
/-- joined -/
def Adj (es : List Sec) (u v : Str) : Prop := v ∈ nbL es u
theorem adj_iff {u v : Str} (hf : Fits2 ns es) : Adj es u v ↔ ∃ x ∈ es, x.joins u v := by
  unfold Adj nbL Sec.joins
  constructor
  · intro h
    obtain ⟨x, hx, e⟩ := List.mem_map.mp h
    obtain ⟨h1, h2⟩ := List.mem_filter.mp hx
    refine ⟨x, h1, ?_⟩
    unfold Sec.at_ at h2
    unfold Sec.other at e
    by_cases ha : x.a = u
    · rw [if_pos ha] at e
      exact .inl ⟨ha, e⟩
    · rw [if_neg ha] at e
      simp [ha] at h2
      exact .inr ⟨e, h2⟩
  · rintro ⟨x, hx, ⟨h1, h2⟩ | ⟨h1, h2⟩⟩
    · refine List.mem_map.mpr ⟨x, List.mem_filter.mpr ⟨hx, by simp [Sec.at_, h1]⟩, ?_⟩
      unfold Sec.other
      rw [if_pos h1, h2]
    · have ne := (hf x hx).2.2
      refine List.mem_map.mpr ⟨x, List.mem_filter.mpr ⟨hx, by simp [Sec.at_, h2]⟩, ?_⟩
      unfold Sec.other
      rw [if_neg (fun e => ne (by rw [e, h2])), h1]
theorem adj_symm {u v : Str} (hf : Fits2 ns es) (h : Adj es u v) : Adj es v u := by
  obtain ⟨x, hx, j⟩ := (adj_iff hf).mp h
  exact (adj_iff hf).mpr ⟨x, hx, j.elim (fun z => .inr z) fun z => .inl z⟩
/-- closed under neighbours -/
theorem LineOf.closed {S : Str → Prop} (h : LineOf m sorts ns es d) (cl : ∀ u, S u → ∀ v ∈ nbL es u, S v) {u : Str} (hu : u ∈ ns) (su : S u) : ∀ v ∈ ns, S v := by
  refine h.conn (fun x hx => ?_) hu su
  have j : Adj es x.a x.b := (adj_iff h.fits).mpr ⟨x, hx, .inl ⟨rfl, rfl⟩⟩
  exact ⟨fun s => cl _ s _ j, fun s => cl _ s _ (adj_symm h.fits j)⟩
end
end Xa
/-! YC3: one path alone. -/
namespace Xa
open PySem PySem.Spec PyProof.Rows L2 TL
section
variable {α : Type} {E : α → α → Prop} {V : α → Prop} {w v : α}
/-- each joined to the next -/
def Walk (E : α → α → Prop) : List α → Prop
  | [] => True
  | [_] => True
  | a :: b :: r => E a b ∧ Walk E (b :: r)
theorem walk_tail {a : α} {l : List α} (h : Walk E (a :: l)) : Walk E l := by
  cases l with
  | nil => exact trivial
  | cons b r => exact h.2
theorem walk_right : ∀ {s r : List α}, Walk E (s ++ r) → Walk E r
  | [], _, h => h
  | a :: s, r, h => walk_right (s := s) (walk_tail (a := a) h)
theorem walk_left : ∀ {s r : List α}, Walk E (s ++ r) → Walk E s
  | [], _, _ => trivial
  | [_], _, _ => trivial
  | a :: b :: s, r, h => ⟨h.1, walk_left (s := b :: s) (r := r) h.2⟩
theorem walk_mid : ∀ {s : List α} {x y : α} {r : List α}, Walk E (s ++ x :: y :: r) → E x y
  | [], _, _, _, h => h.1
  | a :: s, _, _, _, h => walk_mid (s := s) (walk_tail (a := a) h)
/-- no two walks without a double have the same ends -/
def Uniq (E : α → α → Prop) (V : α → Prop) : Prop := ∀ l l' : List α, Walk E l → Walk E l' → l.Nodup → l'.Nodup → (∀ x ∈ l, V x) → (∀ x ∈ l', V x) → l.head? = l'.head? → l.getLast? = l'.getLast? → l = l'
theorem at_end (sym : ∀ x y, E x y → E y x) (hw : ¬ V w) (only : ∀ x, V x → E w x → x = v) {l : List α} (hl : Walk E l) (nd : l.Nodup) (hV : ∀ x ∈ l, V x ∨ x = w) :
    (w ∉ l) ∨ l = [w] ∨ (∃ r, l = w :: v :: r ∧ w ∉ v :: r) ∨ ∃ t, l = t ++ [v, w] ∧ w ∉ t ++ [v] := by
  by_cases hm : w ∈ l
  · right
    obtain ⟨s, r, rfl⟩ := List.append_of_mem hm
    obtain ⟨n1, n2, n3⟩ := List.nodup_append.mp nd
    have ws : w ∉ s := fun h => n3 w h w List.mem_cons_self rfl
    have wr : w ∉ r := (List.nodup_cons.mp n2).1
    have inV : ∀ x, x ∈ s ∨ x ∈ r → V x := fun x hx => by
      rcases hx with hx | hx
      · exact (hV x (List.mem_append_left _ hx)).resolve_right fun e => ws (e ▸ hx)
      · exact (hV x (List.mem_append_right _ (List.mem_cons_of_mem _ hx))).resolve_right fun e => wr (e ▸ hx)
    rcases List.eq_nil_or_concat s with rfl | ⟨s', y, rfl⟩
    · cases r with
      | nil => exact .inl rfl
      | cons z r' =>
        have e : z = v := only z (inV z (.inr List.mem_cons_self)) (walk_mid (s := []) hl)
        subst e
        exact .inr (.inl ⟨r', rfl, wr⟩)
    · have hl' : Walk E (s' ++ y :: w :: r) := by simpa using hl
      have ey : y = v := only y (inV y (.inl (by simp))) (sym _ _ (walk_mid hl'))
      subst ey
      cases r with
      | nil => exact .inr (.inr ⟨s', by simp, by simpa using ws⟩)
      | cons z r' =>
        have hl2 : Walk E ((s' ++ [y]) ++ w :: z :: r') := by simpa using hl
        have ez : z = y := only z (inV z (.inr List.mem_cons_self)) (walk_mid hl2)
        subst ez
        exact absurd rfl (n3 z (by simp) z (by simp))
  · exact .inl hm
theorem uniq_step (sym : ∀ x y, E x y → E y x) (U : Uniq E V) (hw : ¬ V w) (hv : V v) (only : ∀ x, V x → E w x → x = v) : Uniq E (fun x => V x ∨ x = w) := by
  intro l l' h h' nd nd' hV hV' e1 e2
  have inV : ∀ {t : List α}, (∀ x ∈ t, V x ∨ x = w) → w ∉ t → ∀ x ∈ t, V x := fun {t} a b x hx => (a x hx).resolve_right fun e => b (e ▸ hx)
  have hd : ∀ {t : List α}, t.head? = some w → w ∈ t := fun {t} h => List.mem_of_mem_head? (by rw [h]; rfl)
  have gl : ∀ {t : List α}, t.getLast? = some w → w ∈ t := fun {t} h => List.mem_of_getLast? h
  have vw : v ≠ w := fun e => hw (e ▸ hv)
  rcases at_end sym hw only h nd hV with n | rfl | ⟨r, rfl, n⟩ | ⟨t, rfl, n⟩
  · rcases at_end sym hw only h' nd' hV' with n' | rfl | ⟨r', rfl, n'⟩ | ⟨t', rfl, n'⟩
    · exact U l l' h h' nd nd' (inV hV n) (inV hV' n') e1 e2
    · exact absurd (hd (by simpa using e1)) n
    · exact absurd (hd (by simpa using e1)) n
    · exact absurd (gl (by simpa using e2)) n
  · rcases at_end sym hw only h' nd' hV' with n' | rfl | ⟨r', rfl, n'⟩ | ⟨t', rfl, n'⟩
    · exact absurd (hd (by simpa using e1.symm)) n'
    · rfl
    · have : w ∈ v :: r' := gl (by rw [List.getLast?_cons_cons] at e2; simpa using e2.symm)
      exact absurd this n'
    · have : w ∈ t' ++ [v] := hd (by
        have := e1.symm
        rw [show t' ++ [v, w] = (t' ++ [v]) ++ [w] by simp, List.head?_append] at this
        cases ht : (t' ++ [v]).head? with
        | none => simp at ht
        | some z => rw [ht] at this; simpa using this)
      exact absurd this n'
  · rcases at_end sym hw only h' nd' hV' with n' | rfl | ⟨r', rfl, n'⟩ | ⟨t', rfl, n'⟩
    · exact absurd (hd (by simpa using e1.symm)) n'
    · have : w ∈ v :: r := gl (by rw [List.getLast?_cons_cons] at e2; simpa using e2)
      exact absurd this n
    · rw [U (v :: r) (v :: r') (walk_tail h) (walk_tail h') (List.nodup_cons.mp nd).2 (List.nodup_cons.mp nd').2 (inV (fun x hx => hV x (List.mem_cons_of_mem _ hx)) n) (inV (fun x hx => hV' x (List.mem_cons_of_mem _ hx)) n') rfl (by rw [List.getLast?_cons_cons, List.getLast?_cons_cons] at e2; exact e2)]
    · have : w ∈ t' ++ [v] := hd (by
        have := e1.symm
        rw [show t' ++ [v, w] = (t' ++ [v]) ++ [w] by simp, List.head?_append] at this
        cases ht : (t' ++ [v]).head? with
        | none => simp at ht
        | some z => rw [ht] at this; simpa using this)
      exact absurd this n'
  · rcases at_end sym hw only h' nd' hV' with n' | rfl | ⟨r', rfl, n'⟩ | ⟨t', rfl, n'⟩
    · exact absurd (gl (by simpa using e2.symm)) n'
    · have : w ∈ t ++ [v] := hd (by
        have := e1
        rw [show t ++ [v, w] = (t ++ [v]) ++ [w] by simp, List.head?_append] at this
        cases ht : (t ++ [v]).head? with
        | none => simp at ht
        | some z => rw [ht] at this; simpa using this)
      exact absurd this n
    · have : w ∈ t ++ [v] := hd (by
        have := e1
        rw [show t ++ [v, w] = (t ++ [v]) ++ [w] by simp, List.head?_append] at this
        cases ht : (t ++ [v]).head? with
        | none => simp at ht
        | some z => rw [ht] at this; simpa using this)
      exact absurd this n
    · have s1 : t ++ [v, w] = (t ++ [v]) ++ [w] := by simp
      have s2 : t' ++ [v, w] = (t' ++ [v]) ++ [w] := by simp
      rw [s1] at h nd hV e1 ⊢
      rw [s2] at h' nd' hV' e1 ⊢
      have e3 : (t ++ [v]).head? = (t' ++ [v]).head? := by
        rw [List.head?_append, List.head?_append (l := t' ++ [v])] at e1
        cases h1 : (t ++ [v]).head? with
        | none => simp at h1
        | some z =>
          cases h2 : (t' ++ [v]).head? with
          | none => simp at h2
          | some z' => rw [h1, h2] at e1; simpa using e1
      rw [U (t ++ [v]) (t' ++ [v]) (walk_left h) (walk_left h') (List.nodup_append.mp nd).1 (List.nodup_append.mp nd').1 (inV (fun x hx => hV x (List.mem_append_left _ hx)) n) (inV (fun x hx => hV' x (List.mem_append_left _ hx)) n') e3 (by simp)]
end
end Xa
/-! YC4: in a LINE there is one path alone between two stations. -/
namespace Xa
open PySem PySem.Spec PyProof.Rows L2 TL
section
variable {m : Nat} {sorts ns : List Str} {es : List Sec} {d : D}
theorem LineOf.uniq (h : LineOf m sorts ns es d) : Uniq (Adj es) (· ∈ ns) := by
  have hf := h.fits
  obtain ⟨ns0, es0, hb, hl, p1, p2⟩ := h.tree
  have len0 : ns0.length = m := by rw [← p1.length_eq, h.nms.len]
  have nd0 : ns0.Nodup := p1.nodup_iff.mp h.nms.nd
  have sym : ∀ x y, Adj es x y → Adj es y x := fun x y z => adj_symm hf z
  have inj : ∀ {i j : Nat} {w : Str}, ns0[i]? = some w → ns0[j]? = some w → i = j := fun {i j w} a b =>
    (List.getElem?_inj (List.getElem?_eq_some_iff.mp a).1 nd0).mp (a.trans b.symm)
  have go : ∀ k : Nat, Uniq (Adj es) (fun x => ∃ i : Nat, i < k ∧ ns0[i]? = some x) := by
    intro k
    induction k with
    | zero =>
      intro l l' _ _ _ _ hV hV' _ _
      cases l with
      | nil =>
        cases l' with
        | nil => rfl
        | cons a r => obtain ⟨i, hi, _⟩ := hV' a List.mem_cons_self; omega
      | cons a r => obtain ⟨i, hi, _⟩ := hV a List.mem_cons_self; omega
    | succ k ih =>
      by_cases hk : k < ns0.length
      · have hw : ns0[k]? = some ns0[k] := List.getElem?_eq_getElem hk
        have eqV : ∀ x, (∃ i : Nat, i < k + 1 ∧ ns0[i]? = some x) ↔ ((∃ i : Nat, i < k ∧ ns0[i]? = some x) ∨ x = ns0[k]) := fun x => by
          constructor
          · rintro ⟨i, hi, e⟩
            by_cases hik : i = k
            · subst hik; rw [hw] at e; exact .inr (Option.some.inj e).symm
            · exact .inl ⟨i, by omega, e⟩
          · rintro (⟨i, hi, e⟩ | rfl)
            · exact ⟨i, by omega, e⟩
            · exact ⟨k, by omega, hw⟩
        have hnw : ¬ ∃ i : Nat, i < k ∧ ns0[i]? = some ns0[k] := fun ⟨i, hi, e⟩ => by
          have := inj e hw
          omega
        have fin : Uniq (Adj es) (fun x => (∃ i : Nat, i < k ∧ ns0[i]? = some x) ∨ x = ns0[k]) := by
          cases k with
          | zero =>
            intro l l' _ _ nd nd' hV hV' e1 e2
            have one : ∀ {t : List Str}, t.Nodup → (∀ x ∈ t, (∃ i : Nat, i < 0 ∧ ns0[i]? = some x) ∨ x = ns0[0]) → t = [] ∨ t = [ns0[0]] := fun {t} nd hV => by
              cases t with
              | nil => exact .inl rfl
              | cons a r =>
                have ea : a = ns0[0] := (hV a List.mem_cons_self).resolve_left fun ⟨i, hi, _⟩ => by omega
                cases r with
                | nil => exact .inr (by rw [ea])
                | cons b r' =>
                  have eb : b = ns0[0] := (hV b (by simp)).resolve_left fun ⟨i, hi, _⟩ => by omega
                  rw [ea, eb] at nd
                  simp at nd
            rcases one nd hV with rfl | rfl <;> rcases one nd' hV' with rfl | rfl <;> simp_all
          | succ k =>
            have hi : k < es0.length := by omega
            obtain ⟨u, o, v, hu, ho, hv, hj, _, _⟩ := hb.join k es0[k] (List.getElem?_eq_getElem hi)
            rw [hw] at hu
            cases hu
            refine uniq_step sym ih hnw ⟨o, by omega, hv⟩ fun y ⟨j, hjk, hy⟩ ha => ?_
            -- a section that joins the last one to an elder one is the last one
            obtain ⟨x, hx, jx⟩ := (adj_iff hf).mp ha
            obtain ⟨i, hxi⟩ := List.getElem?_of_mem (p2.mem_iff.mp hx)
            obtain ⟨u', o', v', hu', ho', hv', hj', _, _⟩ := hb.join i x hxi
            have cases2 : (u' = ns0[k + 1] ∧ v' = y) ∨ (u' = y ∧ v' = ns0[k + 1]) := by
              unfold Sec.joins at jx hj'
              rcases jx with ⟨a1, a2⟩ | ⟨a1, a2⟩ <;> rcases hj' with ⟨b1, b2⟩ | ⟨b1, b2⟩
              · exact .inl ⟨b1.symm.trans a1, b2.symm.trans a2⟩
              · exact .inr ⟨b2.symm.trans a2, b1.symm.trans a1⟩
              · exact .inr ⟨b1.symm.trans a1, b2.symm.trans a2⟩
              · exact .inl ⟨b2.symm.trans a2, b1.symm.trans a1⟩
            rcases cases2 with ⟨c1, c2⟩ | ⟨c1, c2⟩
            · rw [c1] at hu'
              have e := inj hu' hw
              have e' : i = k := by omega
              subst e'
              rw [List.getElem?_eq_getElem hi] at hxi
              cases hxi
              -- the same section
              unfold Sec.joins at hj hj'
              rw [← c2]
              rcases hj with ⟨a1, a2⟩ | ⟨a1, a2⟩ <;> rcases hj' with ⟨b1, b2⟩ | ⟨b1, b2⟩
              · exact b2.symm.trans a2
              · exact absurd (inj (by rw [hv', ← b1, a1]) hw) (by omega)
              · exact absurd (inj (by rw [hv', ← b2, a2]) hw) (by omega)
              · exact b1.symm.trans a1
            · rw [c1] at hu'
              rw [c2] at hv'
              have e1 := inj hu' hy
              have e2 := inj hv' hw
              omega
        intro l l' a1 a2 a3 a4 a5 a6 a7 a8
        exact fin l l' a1 a2 a3 a4 (fun x hx => (eqV x).mp (a5 x hx)) (fun x hx => (eqV x).mp (a6 x hx)) a7 a8
      · intro l l' a1 a2 a3 a4 a5 a6 a7 a8
        have z : ∀ x, (∃ i : Nat, i < k + 1 ∧ ns0[i]? = some x) → ∃ i : Nat, i < k ∧ ns0[i]? = some x := fun x ⟨i, hi, e⟩ => ⟨i, by have := (List.getElem?_eq_some_iff.mp e).1; omega, e⟩
        exact ih l l' a1 a2 a3 a4 (fun x hx => z x (a5 x hx)) (fun x hx => z x (a6 x hx)) a7 a8
  intro l l' a1 a2 a3 a4 a5 a6 a7 a8
  have z : ∀ x, x ∈ ns → ∃ i : Nat, i < ns0.length ∧ ns0[i]? = some x := fun x hx => by
    obtain ⟨i, hi⟩ := List.getElem?_of_mem (p1.mem_iff.mp hx)
    exact ⟨i, (List.getElem?_eq_some_iff.mp hi).1, hi⟩
  exact go ns0.length l l' a1 a2 a3 a4 (fun x hx => z x (a5 x hx)) (fun x hx => z x (a6 x hx)) a7 a8
end
end Xa
/-! YC5: what the walk to an end knows: each station with its next one. -/
namespace Xa
open PySem PySem.Spec PyProof.Rows L2 TL
abbrev Vis := List (Str × Option Str)
def nxtD : Option Str → D
  | none => .non
  | some t => .str t
def visK (vis : Vis) : List (D × D) := vis.map fun p => (D.str p.1, nxtD p.2)
def keysOf (vis : Vis) : List Str := vis.map (·.1)
theorem vis_find {s : Str} {o : Option Str} : ∀ {vis : Vis}, (keysOf vis).Nodup → (s, o) ∈ vis → dicFind (visK vis) (.str s) = some (nxtD o)
  | p :: r, nd, h => by
    have nd' : (p.1 :: keysOf r).Nodup := nd
    obtain ⟨n1, n2⟩ := List.nodup_cons.mp nd'; rcases List.mem_cons.mp h with e | h
    · subst e
      simp [dicFind, visK, keq_str]
    · have hne : ¬ p.1 = s := fun e => n1 (by rw [e]; exact List.mem_map.mpr ⟨(s, o), h, rfl⟩)
      have := vis_find n2 h
      simpa [dicFind, visK, keq_str, hne] using this
theorem vis_none {s : Str} : ∀ {vis : Vis}, s ∉ keysOf vis → dicFind (visK vis) (.str s) = none
  | [], _ => rfl
  | p :: r, h => by
    have hne : ¬ p.1 = s := fun e => h (by rw [← e]; exact List.mem_cons_self)
    have := vis_none (vis := r) fun z => h (List.mem_cons_of_mem _ z)
    simpa [dicFind, visK, keq_str, hne] using this
theorem vis_ok {vis : Vis} {s : Str} : okK (visK vis) (.str s) = true := by
  unfold okK
  cases vis with
  | nil => rfl
  | cons p r => rfl
theorem vis_put {vis : Vis} {s : Str} {o : Option Str} (h : s ∉ keysOf vis) : dicPut (visK vis) (.str s) (nxtD o) = visK (vis ++ [(s, o)]) := by
  have e : ((visK vis).any fun p => keq p.1 (.str s)) = false := by
    unfold visK
    rw [List.any_map]
    refine List.any_eq_false.mpr fun p hp => ?_
    show ¬ keq (.str p.1) (.str s) = true
    rw [keq_str]
    simp only [decide_eq_true_eq]
    exact fun e => h (by rw [← e]; exact List.mem_map.mpr ⟨p, hp, rfl⟩)
  unfold dicPut
  rw [e, if_neg Bool.false_ne_true]; unfold visK
  rw [List.map_append]; rfl
/-- s leads to the end along l -/
inductive Leads (vis : Vis) : Str → List Str → Prop
  | last {s : Str} : (s, none) ∈ vis → Leads vis s [s]
  | step {s t : Str} {l : List Str} : (s, some t) ∈ vis → Leads vis t l → Leads vis s (s :: l)
theorem Leads.mono {vis vis' : Vis} (h : ∀ p ∈ vis, p ∈ vis') {s : Str} {l : List Str} (a : Leads vis s l) : Leads vis' s l := by
  induction a with
  | last h1 => exact .last (h _ h1)
  | step h1 _ ih => exact .step (h _ h1) ih
theorem Leads.head {vis : Vis} {s : Str} {l : List Str} (a : Leads vis s l) : ∃ r, l = s :: r := by
  cases a with
  | last _ => exact ⟨[], rfl⟩
  | step _ _ => exact ⟨_, rfl⟩
theorem Leads.keys {vis : Vis} {s : Str} {l : List Str} (a : Leads vis s l) : ∀ x ∈ l, x ∈ keysOf vis := by
  induction a with
  | last h1 => intro x hx; rw [List.mem_singleton.mp hx]; exact List.mem_map.mpr ⟨_, h1, rfl⟩
  | step h1 _ ih =>
    intro x hx; rcases List.mem_cons.mp hx with e | hx
    · rw [e]; exact List.mem_map.mpr ⟨_, h1, rfl⟩
    · exact ih x hx
/-- what holds of the dict: each key has its walk to the end -/
structure VisOk (es : List Sec) (end_ : Str) (vis : Vis) : Prop where
  nd : (keysOf vis).Nodup
  lead : ∀ s ∈ keysOf vis, ∃ l, Leads vis s l ∧ Walk (Adj es) l ∧ l.Nodup ∧ l.getLast? = some end_
theorem VisOk.one (es : List Sec) (e : Str) : VisOk es e [(e, none)] := ⟨by simp [keysOf], fun s hs => by
  have : s = e := by simpa [keysOf] using hs
  subst this
  exact ⟨[s], .last List.mem_cons_self, trivial, by simp, rfl⟩⟩
theorem VisOk.more {es : List Sec} {e here there : Str} {vis : Vis} (h : VisOk es e vis) (hh : here ∈ keysOf vis) (hn : there ∉ keysOf vis) (ha : Adj es there here) : VisOk es e (vis ++ [(there, some here)]) := by
  have sub : ∀ p ∈ vis, p ∈ vis ++ [(there, some here)] := fun p hp => List.mem_append_left _ hp
  have ek : keysOf (vis ++ [(there, some here)]) = keysOf vis ++ [there] := by unfold keysOf; rw [List.map_append]; rfl
  refine ⟨?_, fun s hs => ?_⟩
  · rw [ek]
    refine List.nodup_append.mpr ⟨h.nd, by simp, fun a ha b hb e => hn ?_⟩
    rw [← List.mem_singleton.mp hb, ← e]; exact ha
  · rw [ek] at hs
    rcases List.mem_append.mp hs with hs | hs
    · obtain ⟨l, a, b, c, d⟩ := h.lead s hs
      exact ⟨l, a.mono sub, b, c, d⟩
    · rw [List.mem_singleton.mp hs]
      obtain ⟨l, a, b, c, d⟩ := h.lead here hh
      obtain ⟨r, rfl⟩ := a.head
      refine ⟨there :: here :: r, .step (List.mem_append_right _ List.mem_cons_self) (a.mono sub), ⟨ha, b⟩, List.nodup_cons.mpr ⟨fun z => hn (a.keys _ z), c⟩, ?_⟩
      rw [List.getLast?_cons_cons]; exact d
end Xa
/-! YC6: the walk to an end reaches every station. -/
namespace Xa
open PySem PySem.Spec PyProof.Rows L2 TL
/-- a list without a double within another one is no longer -/
theorem nd_len {α : Type} [DecidableEq α] : ∀ {l m : List α}, l.Nodup → (∀ x ∈ l, x ∈ m) → l.length ≤ m.length
  | [], _, _, _ =>
      Nat.zero_le _
  | a :: r, m, nd, h => by
    obtain ⟨n1, n2⟩ := List.nodup_cons.mp nd; have ha := h a List.mem_cons_self
    have ih := nd_len (m := m.erase a) n2 fun x hx => (List.mem_erase_of_ne (fun e => n1 (by rw [← e]; exact hx))).mpr (h x (List.mem_cons_of_mem _ hx))
    have hl := List.length_erase_of_mem ha
    have hp := List.length_pos_of_mem ha
    rw [List.length_cons]
    omega
theorem vis_notIn {vis : Vis} {s : Str} (nd : (keysOf vis).Nodup) : fNotIn (.str s) (.dic (visK vis)) = some (.bl (decide (s ∉ keysOf vis))) := by
  unfold fNotIn fIn
  simp only
  rw [if_pos vis_ok]
  by_cases h : s ∈ keysOf vis
  · obtain ⟨p, hp, e⟩ := List.mem_map.mp h
    obtain ⟨s', o⟩ := p
    cases e
    rw [vis_find nd hp]
    simp [h]
  · rw [vis_none h]
    simp [h]
theorem keysOf_snoc (vis : Vis) (s : Str) (o : Option Str) : keysOf (vis ++ [(s, o)]) = keysOf vis ++ [s] := by unfold keysOf; rw [List.map_append]; rfl
theorem fIdx_near {ns : List Str} {f : Str → List Str} {u : Str} (h : u ∈ ns) : fIdx (.dic (nearK ns f)) (.str u) = some (.lst ((f u).map D.str)) := by
  unfold fIdx
  simp only
  rw [if_pos near_ok, near_find h]
noncomputable def stepsB : DS := (sThen (sSet 2 (dDisp (dVar 1) (dC .non)))
  (sThen (sSet 3 (dOp semLst (dCons (dVar 1) dNil)))
  (sThen (sWhile (asB (d2 fGt (d1 fLen (dOwn 3)) (dC (.int 0)))) (sThen (sMtSet 4 3 mPop dNil)
  (sFor (dItems (d2 fIdx (dVar 0) (dVar 4))) (tgName 5) (sIf (asB (d2 fNotIn (dVar 5) (dOwn 2))) (sThen (sDicPut 2 (dVar 5) (dVar 4))
  (sMt 3 mAppend (dCons (dVar 5) dNil))) sSkip))))
  (sRet (dVar 2)))))
/-- what holds of keys and of what waits -/
structure StOk (ns : List Str) (es : List Sec) (e : Str) (vis : Vis) (w : List Str) : Prop where
  ok : VisOk es e vis
  sub : ∀ s ∈ keysOf vis, s ∈ ns
  wk : ∀ s ∈ w, s ∈ keysOf vis
  ek : e ∈ keysOf vis
theorem says_gt0 {G : Gam} {i : Nat} {l : List D} (h : gat G i = some (.lst l)) : SaysT (asB (d2 fGt (d1 fLen (dOwn i)) (dC (.int 0)))) G (· = decide (0 < l.length)) :=
  saysT_asB (says_d2 (P1 := (· = .int l.length)) (P2 := (· = .int 0)) (says_d1 (P1 := (· = .lst l)) (says_own h) fun d e => by subst e; exact ⟨_, rfl, rfl⟩) says_c fun d e e1 e2 => by
    subst e1 e2
    refine ⟨_, rfl, _, rfl, ?_⟩
    simp)
theorem saysL_one {f : DE} {G : Gam} {d : D} (h : Says f G (· = d)) : SaysL (dCons f dNil) G (· = [d]) := saysL_cons h saysL_nil fun _ _ ea eb => by rw [ea, eb]
theorem app_ok {l : List D} {d : D} (h : l.length < 10000) : mAppend l [d] = some (l ++ [d], .non) := by
  unfold mAppend
  simp only
  rw [if_pos (Nat.lt_of_lt_of_le h (line1000 (by decide)))]
theorem semLst_ok {ds : List D} (h : ds.length ≤ 1000) : semLst ds = some (.lst ds) := by unfold semLst; rw [if_pos (line1000 (by omega))]
theorem semTup_ok {ds : List D} (h : ds.length ≤ 1000) : semTup ds = some (.tup ds) := by unfold semTup; rw [if_pos (line1000 (by omega))]
theorem tells_steps {m : Nat} {sorts ns : List Str} {es : List Sec} {d : D} {e : Str} (h : LineOf m sorts ns es d) (he : e ∈ ns) (hm : m ≤ 900) :
    Tells (runD 6 stepsB) [.dic (nearK ns (nbL es)), .str e] (fun d => ∃ vis, d = .dic (visK vis) ∧ VisOk es e vis ∧ ∀ s, s ∈ keysOf vis ↔ s ∈ ns) := by
  have hf := h.fits
  have nbN : ∀ {u v : Str}, v ∈ nbL es u → v ∈ ns := fun {u v} hv => by
    obtain ⟨x, hx, j⟩ := (adj_iff hf).mp hv
    exact j.elim (fun z => z.2 ▸ (hf x hx).2.1) fun z => z.1 ▸ (hf x hx).1
  have nl : ns.length = m := h.nms.len
  have kl : ∀ {vis : Vis} {w : List Str}, StOk ns es e vis w → vis.length ≤ ns.length := fun {vis w} z => by
    have := nd_len z.ok.nd z.sub
    unfold keysOf at this
    rw [List.length_map] at this
    exact this
  refine tells_run ?_
  unfold stepsB
  generalize hL : (.dic (nearK ns (nbL es)) : D) = L
  have s0 : startG 6 [L, .str e] = [some L, some (.str e), none, none, none, none] := rfl
  rw [s0]
  refine does_then (Pm := fun G => G = [some L, some (.str e), some (.dic (visK [(e, none)])), none, none, none]) (does_set (P := (· = .dic (visK [(e, none)]))) (fun B g => ⟨_, B, rfl, g, rfl⟩) fun d e => by subst e; rfl) fun G e1 => ?_
  subst e1
  refine does_then (Pm := fun G => G = [some L, some (.str e), some (.dic (visK [(e, none)])), some (.lst [.str e]), none, none]) (does_set (P := (· = .lst [.str e])) (says_op (saysL_one (says_var rfl)) fun ds e => by subst e; exact ⟨_, semLst_ok (by simp), rfl⟩) fun d e => by subst e; rfl) fun G e1 => ?_
  subst e1
  let Sh : Vis → List Str → Gam → Prop := fun vis w G => ∃ y4 y5, G = [some L, some (.str e), some (.dic (visK vis)), some (.lst (w.map D.str)), y4, y5]
  let Inv : Nat → Gam → Prop := fun n G => ∃ vis w, Sh vis w G ∧ StOk ns es e vis w ∧ (∀ s ∈ keysOf vis, s ∈ w ∨ ∀ v ∈ nbL es s, v ∈ keysOf vis) ∧ 2 * (ns.length - vis.length) + w.length ≤ n ∧ n ≤ 2 * m
  let Fin : Gam → Prop := fun G => ∃ vis w, Sh vis w G ∧ VisOk es e vis ∧ ∀ s, s ∈ keysOf vis ↔ s ∈ ns
  have mpos : 1 ≤ m := by rw [← nl]; exact List.length_pos_of_mem he
  refine does_then (Pm := Fin) (does_while (Inv := Inv) ?_ (2 * (ns.length - 1) + 1) ⟨[(e, none)], [e], ⟨none, none, rfl⟩, ⟨VisOk.one es e, ?_, ?_, by simp [keysOf]⟩, ?_, ?_, ?_⟩) fun G ⟨vis, w, ⟨y4, y5, e1⟩, ok, all⟩ => ?_
  · rintro n G ⟨vis, w, ⟨y4, y5, rfl⟩, ok, cl, hn, hn2⟩
    refine ⟨decide (0 < (w.map D.str).length), says_gt0 rfl, fun hc => ?_, fun hc => ?_⟩
    · have hw : 0 < w.length := by simpa using of_decide_eq_true hc
      obtain ⟨w', here, rfl⟩ : ∃ w' here, w = w' ++ [here] := ⟨w.dropLast, w.getLast (List.length_pos_iff.mp hw), (List.dropLast_concat_getLast _).symm⟩
      have hh : here ∈ keysOf vis := ok.wk here (by simp)
      have hhn : here ∈ ns := ok.sub here hh
      have hwl : 2 * (ns.length - vis.length) + w'.length < n := by
        rw [List.length_append] at hn; simp only [List.length_nil, List.length_cons] at hn; omega
      refine does_then (Pm := fun G => G = [some L, some (.str e), some (.dic (visK vis)), some (.lst (w'.map D.str)), some (.str here), y5]) (does_mtSet (ds := (w' ++ [here]).map D.str) rfl saysL_nil (by rw [List.map_append]; exact mPop_snoc _ _) rfl) fun G e1 => ?_
      subst e1
      let In : Nat → Gam → Prop := fun i G => ∃ vis w y5, G = [some L, some (.str e), some (.dic (visK vis)), some (.lst (w.map D.str)), some (.str here), y5] ∧ StOk ns es e vis w ∧ here ∈ keysOf vis ∧ (∀ s ∈ keysOf vis, s = here ∨ s ∈ w ∨ ∀ v ∈ nbL es s, v ∈ keysOf vis) ∧ (∀ v ∈ (nbL es here).take i, v ∈ keysOf vis) ∧ 2 * (ns.length - vis.length) + w.length < n
      refine does_for (ds := (nbL es here).map D.str) (Inv := In) (saysL_items (d := .lst ((nbL es here).map D.str)) (says_d2 (P1 := (· = L)) (P2 := (· = .str here)) (says_var rfl) (says_var rfl) fun d e e1 e2 => by subst e1 e2; rw [← hL]; exact ⟨_, fIdx_near hhn, rfl⟩) rfl) ⟨vis, w', y5, rfl, ⟨ok.ok, ok.sub, fun s hs => ok.wk s (List.mem_append_left _ hs), ok.ek⟩, hh, fun s hs => ?_, fun v hv => by simp at hv, hwl⟩ ?_ ?_
      · rcases cl s hs with h1 | h1
        · rcases List.mem_append.mp h1 with h1 | h1
          · exact .inr (.inl h1)
          · exact .inl (List.mem_singleton.mp h1)
        · exact .inr (.inr h1)
      · rintro i d G hd ⟨vis, w, z5, rfl, ok, hh, cl, got, hw⟩
        rw [List.getElem?_map] at hd
        cases hx : (nbL es here)[i]? with
        | none => rw [hx] at hd; cases hd
        | some there =>
          rw [hx] at hd; cases hd
          have hth : there ∈ nbL es here := List.mem_of_getElem? hx
          have tk : ∀ v, v ∈ (nbL es here).take (i + 1) → v ∈ (nbL es here).take i ∨ v = there := fun v hv => by
            rw [List.take_add_one, hx] at hv
            rcases List.mem_append.mp hv with hv | hv
            · exact .inl hv
            · exact .inr (by simpa using hv)
          refine ⟨_, rfl, does_if (PT := fun c => c = decide (there ∉ keysOf vis)) (saysT_asB (says_d2 (P1 := (· = .str there)) (P2 := (· = .dic (visK vis))) (says_var rfl) (says_ownD rfl) fun d e e1 e2 => by subst e1 e2; exact ⟨_, vis_notIn ok.ok.nd, _, rfl, rfl⟩)) (fun hc => ?_) fun hc => ?_⟩
          · have hno : there ∉ keysOf vis := of_decide_eq_true hc.symm
            have ok' : VisOk es e (vis ++ [(there, some here)]) := ok.ok.more hh hno (adj_symm hf hth)
            have sub' : ∀ s ∈ keysOf (vis ++ [(there, some here)]), s ∈ ns := fun s hs => by
              rw [keysOf_snoc] at hs
              rcases List.mem_append.mp hs with hs | hs
              · exact ok.sub s hs
              · rw [List.mem_singleton.mp hs]; exact nbN hth
            have kl' : (vis ++ [(there, some here)]).length ≤ ns.length := kl (w := []) ⟨ok', sub', fun s hs => (nomatch hs), by rw [keysOf_snoc]; exact List.mem_append_left _ ok.ek⟩
            rw [List.length_append] at kl'
            simp only [List.length_nil, List.length_cons] at kl'
            have mono : ∀ {s}, s ∈ keysOf vis → s ∈ keysOf (vis ++ [(there, some here)]) := fun {s} hs => by rw [keysOf_snoc]; exact List.mem_append_left _ hs
            have new : there ∈ keysOf (vis ++ [(there, some here)]) := by rw [keysOf_snoc]; simp
            refine does_then (Pm := fun G => G = [some L, some (.str e), some (.dic (visK (vis ++ [(there, some here)]))), some (.lst (w.map D.str)), some (.str here), some (.str there)]) (does_dicPut (k := .str there) (v := nxtD (some here)) rfl (says_var rfl) (says_var rfl) vis_ok (by unfold visK; rw [List.length_map]; omega) (by rw [vis_put hno]; rfl)) fun G e1 => ?_
            subst e1
            refine does_mt draws_take (ds := w.map D.str) rfl (PL := (· = [.str there])) (saysL_one (says_var rfl)) fun es' e1 => ?_
            subst e1
            refine ⟨_, _, app_ok (by rw [List.length_map]; omega), vis ++ [(there, some here)], w ++ [there], some (.str there), by rw [List.map_append]; rfl, ⟨ok', sub', fun s hs => ?_, mono ok.ek⟩, mono hh, fun s hs => ?_, fun v hv => ?_, ?_⟩
            · rcases List.mem_append.mp hs with hs | hs
              · exact mono (ok.wk s hs)
              · rw [List.mem_singleton.mp hs]; exact new
            · rw [keysOf_snoc] at hs
              rcases List.mem_append.mp hs with hs | hs
              · rcases cl s hs with c | c | c
                · exact .inl c
                · exact .inr (.inl (List.mem_append_left _ c))
                · exact .inr (.inr fun v hv => mono (c v hv))
              · exact .inr (.inl (List.mem_append_right _ hs))
            · rcases tk v hv with hv | hv
              · exact mono (got v hv)
              · rw [hv]; exact new
            · rw [List.length_append, List.length_append]
              simp only [List.length_nil, List.length_cons]
              omega
          · have hin : there ∈ keysOf vis := by simpa using of_decide_eq_false hc.symm
            exact does_skip ⟨vis, w, some (.str there), rfl, ok, hh, cl, fun v hv => (tk v hv).elim (got v) fun z => z ▸ hin, hw⟩
      · rintro G ⟨vis, w, z5, rfl, ok, hh, cl, got, hw⟩
        rw [List.length_map, List.take_length] at got
        refine ⟨2 * (ns.length - vis.length) + w.length, hw, vis, w, ⟨_, _, rfl⟩, ok, fun s hs => ?_, Nat.le_refl _, by omega⟩
        rcases cl s hs with c | c | c
        · subst c; exact .inr got
        · exact .inl c
        · exact .inr c
    · have hw : w = [] := by
        have : ¬ 0 < (w.map D.str).length := of_decide_eq_false hc
        rw [List.length_map] at this
        exact List.length_eq_zero_iff.mp (Nat.eq_zero_of_not_pos this)
      subst hw
      have hek := ok.ek
      exact ⟨vis, [], ⟨y4, y5, rfl⟩, ok.ok, fun s => ⟨ok.sub s, fun hs => h.closed (S := (· ∈ keysOf vis)) (fun u hu => (cl u hu).resolve_left fun z => nomatch z) he hek s hs⟩⟩
  · intro s hs
    have : s = e := by simpa [keysOf] using hs
    rw [this]; exact he
  · intro s hs
    rw [List.mem_singleton.mp hs]; simp [keysOf]
  · intro s hs
    have : s = e := by simpa [keysOf] using hs
    rw [this]; exact .inl List.mem_cons_self
  · simp
  · omega
  · subst e1
    exact does_ret ((says_var (d := .dic (visK vis)) rfl).mono fun d e2 => ⟨vis, e2, ok, all⟩)
end Xa
/-! YC7: the path; the way. -/
namespace Xa
open PySem PySem.Spec PyProof.Rows L2 TL
theorem atI_last {α : Type} (l : List α) (d : α) : atI (l ++ [d]) (-1) = some d := by
  unfold atI ixN
  rw [List.length_append]
  simp only [List.length_nil, List.length_cons]
  rw [if_neg (by decide), if_pos (by omega), Option.bind_some]
  have e : ((-1 : Int) + ((l.length + (0 + 1) : Nat) : Int)).toNat = l.length := by omega
  rw [e]
  simp
noncomputable def pathB : DS := (sThen (sSet 2 (dOp semLst (dCons (dVar 1) dNil)))
  (sThen (sWhile (asB (d1 fIsNot (d2 fIdx (dVar 0) (d2 fIdx (dOwn 2) (d1 fNeg (dC (.int 1))))))) (sMt 2 mAppend (dCons (d2 fIdx (dVar 0) (d2 fIdx (dOwn 2) (d1 fNeg (dC (.int 1))))) dNil)))
  (sRet (dVar 2))))
theorem Leads.first {vis : Vis} {s : Str} {l : List Str} (a : Leads vis s l) : ∃ o, (s, o) ∈ vis ∧ ((o = none ∧ l = [s]) ∨ ∃ t r, o = some t ∧ l = s :: r ∧ Leads vis t r) := by
  cases a with
  | last h => exact ⟨none, h, .inl ⟨rfl, rfl⟩⟩
  | step h b => exact ⟨_, h, .inr ⟨_, _, rfl, rfl, b⟩⟩
theorem fIdx_vis {vis : Vis} {s : Str} {o : Option Str} (nd : (keysOf vis).Nodup) (h : (s, o) ∈ vis) : fIdx (.dic (visK vis)) (.str s) = some (nxtD o) := by
  unfold fIdx
  simp only
  rw [if_pos vis_ok, vis_find nd h]
theorem tells_path {vis : Vis} {s : Str} {l : List Str} (nd : (keysOf vis).Nodup) (h : Leads vis s l) (hl : l.length ≤ 900) : Tells (runD 3 pathB) [.dic (visK vis), .str s] (· = .lst (l.map D.str)) := by
  refine tells_run ?_
  unfold pathB
  generalize hV : (.dic (visK vis) : D) = V
  have s0 : startG 3 [V, .str s] = [some V, some (.str s), none] := rfl
  rw [s0]
  refine does_then (Pm := fun G => G = [some V, some (.str s), some (.lst [.str s])]) (does_set (P := (· = .lst [.str s])) (says_op (saysL_one (says_var rfl)) fun ds e => by subst e; exact ⟨_, semLst_ok (by simp), rfl⟩) fun d e => by subst e; rfl) fun G e1 => ?_
  subst e1
  let Inv : Nat → Gam → Prop := fun n G => ∃ pre t r, Leads vis t r ∧ pre ++ r = l ∧ G = [some V, some (.str s), some (.lst ((pre ++ [t]).map D.str))] ∧ r.length = n
  have nx : ∀ {pre : List Str} {t : Str} {o : Option Str}, (t, o) ∈ vis → Says (d2 fIdx (dVar 0) (d2 fIdx (dOwn 2) (d1 fNeg (dC (.int 1))))) [some V, some (.str s), some (.lst ((pre ++ [t]).map D.str))] (· = nxtD o) := fun {pre t o} ht =>
    says_d2 (P1 := (· = V)) (P2 := (· = .str t)) (says_var rfl) (says_d2 (P1 := (· = .lst ((pre ++ [t]).map D.str))) (P2 := (· = .int (-1))) (says_own rfl) (says_d1 (P1 := (· = .int 1)) says_c fun d e => by subst e; exact ⟨_, rfl, rfl⟩) fun d e e1 e2 => by
      subst e1 e2
      refine ⟨.str t, ?_, rfl⟩
      show atI ((pre ++ [t]).map D.str) (-1) = _
      rw [List.map_append]
      exact atI_last _ _) fun d e e1 e2 => by
      subst e1 e2
      rw [← hV]
      exact ⟨_, fIdx_vis nd ht, rfl⟩
  refine does_then (Pm := fun G => G = [some V, some (.str s), some (.lst (l.map D.str))]) (does_while (Inv := Inv) ?_ l.length ⟨[], s, l, h, rfl, rfl, rfl⟩) fun G e1 => ?_
  · rintro n G ⟨pre, t, r, hr, hp, rfl, hn⟩
    obtain ⟨o, ho, ⟨e1, e2⟩ | ⟨t', r', e1, e2, e3⟩⟩ := hr.first
    · subst e1 e2
      refine ⟨false, saysT_asB (says_d1 (P1 := (· = .non)) (nx ho) fun d e => by subst e; exact ⟨_, rfl, _, rfl, rfl⟩), (fun z => nomatch z), fun _ => ?_⟩
      rw [hp]
    · subst e1 e2
      refine ⟨true, saysT_asB (says_d1 (P1 := (· = .str t')) (nx ho) fun d e => by subst e; exact ⟨_, rfl, _, rfl, rfl⟩), fun _ => ?_, (fun z => nomatch z)⟩
      refine does_mt draws_take (ds := (pre ++ [t]).map D.str) rfl (PL := (· = [.str t'])) (saysL_one (nx ho)) fun es' e1 => ?_
      subst e1
      have hlen : pre.length + (t :: r').length = l.length := by rw [← hp, List.length_append]
      rw [List.length_cons] at hlen hn
      refine ⟨_, _, app_ok (by rw [List.length_map, List.length_append]; simp only [List.length_nil, List.length_cons]; omega), r'.length, by omega, pre ++ [t], t', r', e3, by rw [List.append_assoc]; exact hp, by simp, rfl⟩
  · subst e1
    exact does_ret (says_var rfl)
/-- the walk from one to the other -/
structure PathOf (ns : List Str) (es : List Sec) (u v : Str) (l : List Str) : Prop where
  walk : Walk (Adj es) l
  nd : l.Nodup
  inN : ∀ x ∈ l, x ∈ ns
  hd : l.head? = some u
  tl : l.getLast? = some v
theorem LineOf.path_eq {m : Nat} {sorts ns : List Str} {es : List Sec} {d : D} (h : LineOf m sorts ns es d) {u v : Str} {l l' : List Str} (a : PathOf ns es u v l) (b : PathOf ns es u v l') : l = l' :=
  h.uniq l l' a.walk b.walk a.nd b.nd a.inN b.inN (a.hd.trans b.hd.symm) (a.tl.trans b.tl.symm)
theorem PathOf.len {ns : List Str} {es : List Sec} {u v : Str} {l : List Str} (a : PathOf ns es u v l) : l.length ≤ ns.length := nd_len a.nd a.inN
noncomputable def wayB (Lk St Pa : FD) : DS := (sThen (sSet 3 (dCall St (dCons (dCall Lk (dCons (d2 fIdx (dVar 0) (dC (.int 0))) (dCons (d2 fIdx (dVar 0) (dC (.int 1))) dNil))) (dCons (dVar 2) dNil))))
  (sRet (d1 fTuple (dCut (dCall Pa (dCons (dVar 3) (dCons (dVar 1) dNil))) (pAt (dC (.int 1))) pNo))))
theorem cut1 {a : D} {l : List D} : fCut (.lst (a :: l)) (some 1) none = some (.lst l) := by
  unfold fCut cutD
  simp only
  rw [HT.sIx_none, show ((1 : Int)) = ((1 : Nat) : Int) from rfl, HT.sIx_nat]
  rw [List.length_cons, Nat.min_eq_left (by omega), List.drop_succ_cons, List.drop_zero, List.take_of_length_le (by omega)]
theorem tells_way {m : Nat} {sorts ns : List Str} {es : List Sec} {d : D} {u v : Str} (h : LineOf m sorts ns es d) (hu : u ∈ ns) (hv : v ∈ ns) (hm : m ≤ 900) :
    Tells (runD 4 (wayB (runD 5 linksB) (runD 6 stepsB) (runD 3 pathB))) [d, .str u, .str v] (fun r => ∃ l, r = .tup (l.tail.map D.str) ∧ PathOf ns es u v l) := by
  have hd := h.eq
  have nl : ns.length = m := h.nms.len
  refine tells_run ?_
  unfold wayB
  have s0 : startG 4 [d, .str u, .str v] = [some d, some (.str u), some (.str v), none] := rfl
  rw [s0]
  refine does_then (Pm := fun G => ∃ vis, G = [some d, some (.str u), some (.str v), some (.dic (visK vis))] ∧ VisOk es v vis ∧ ∀ s, s ∈ keysOf vis ↔ s ∈ ns) (does_set (P := fun d => ∃ vis, d = .dic (visK vis) ∧ VisOk es v vis ∧ ∀ s, s ∈ keysOf vis ↔ s ∈ ns) (says_call2 (a := .dic (nearK ns (nbL es))) (says_call2 (a := .tup (ns.map D.str)) (b := .tup (es.map Sec.d)) (says_d2 (P1 := (· = d)) (says_var rfl) says_c fun x y e1 e2 => ?_) (says_d2 (P1 := (· = d)) (says_var rfl) says_c fun x y e1 e2 => ?_) (tells_links h.nms.nd h.fits (by rw [h.elen]; omega) (by omega))) (says_var rfl) (tells_steps h hv hm)) fun x ⟨vis, e, a, b⟩ => ⟨vis, by subst e; rfl, a, b⟩) fun G ⟨vis, e1, ok, all⟩ => ?_
  · subst e1 e2; rw [hd]; exact ⟨_, atI_nat (j := 0) rfl, rfl⟩
  · subst e1 e2; rw [hd]; exact ⟨_, atI_nat (j := 1) rfl, rfl⟩
  subst e1
  obtain ⟨l, la, lw, lnd, ll⟩ := ok.lead u ((all u).mpr hu)
  obtain ⟨r, rfl⟩ := la.head
  have inN : ∀ x ∈ u :: r, x ∈ ns := fun x hx => (all x).mp (la.keys x hx)
  have po : PathOf ns es u v (u :: r) := ⟨lw, lnd, inN, rfl, ll⟩
  refine does_ret (says_d1 (P1 := (· = .lst (r.map D.str))) (fun B g => ?_) fun x e => by subst e; exact ⟨_, rfl, u :: r, rfl, po⟩)
  obtain ⟨x, B1, e1, g1, rfl⟩ := says_call2 (f1 := dVar 3) (f2 := dVar 1) (G := [some d, some (.str u), some (.str v), some (.dic (visK vis))]) (says_var (d := .dic (visK vis)) rfl) (says_var (d := .str u) rfl) (tells_path ok.nd la (Nat.le_trans po.len (by omega))) B g
  refine ⟨_, B1, ?_, g1, rfl⟩
  unfold dCut pAt pNo dC
  rw [e1, Option.bind_some]
  simp only [Option.bind_some, List.map_cons]
  rw [cut1]; rfl
end Xa
/-! YC8: the law's own ways. -/
namespace Xa
open PySem PySem.Spec PyProof.Rows L2 TL
abbrev Way := List (Str × List Str)
def wayK (fd : Way) : List (D × D) := fd.map fun p => (D.str p.1, D.tup (p.2.map D.str))
def keysW (fd : Way) : List Str := fd.map (·.1)
theorem way_find {s : Str} {l : List Str} : ∀ {fd : Way}, (keysW fd).Nodup → (s, l) ∈ fd → dicFind (wayK fd) (.str s) = some (.tup (l.map D.str))
  | p :: r, nd, h => by
    have nd' : (p.1 :: keysW r).Nodup := nd
    obtain ⟨n1, n2⟩ := List.nodup_cons.mp nd'; rcases List.mem_cons.mp h with e | h
    · subst e
      simp [dicFind, wayK, keq_str]
    · have hne : ¬ p.1 = s := fun e => n1 (by rw [e]; exact List.mem_map.mpr ⟨(s, l), h, rfl⟩)
      have := way_find n2 h
      simpa [dicFind, wayK, keq_str, hne] using this
theorem way_none {s : Str} : ∀ {fd : Way}, s ∉ keysW fd → dicFind (wayK fd) (.str s) = none
  | [], _ => rfl
  | p :: r, h => by
    have hne : ¬ p.1 = s := fun e => h (by rw [← e]; exact List.mem_cons_self)
    have := way_none (fd := r) fun z => h (List.mem_cons_of_mem _ z)
    simpa [dicFind, wayK, keq_str, hne] using this
theorem way_ok {fd : Way} {s : Str} : okK (wayK fd) (.str s) = true := by
  unfold okK
  cases fd with
  | nil => rfl
  | cons p r => rfl
theorem way_put {fd : Way} {s : Str} {l : List Str} (h : s ∉ keysW fd) : dicPut (wayK fd) (.str s) (.tup (l.map D.str)) = wayK (fd ++ [(s, l)]) := by
  have e : ((wayK fd).any fun p => keq p.1 (.str s)) = false := by
    unfold wayK
    rw [List.any_map]
    refine List.any_eq_false.mpr fun p hp => ?_
    show ¬ keq (.str p.1) (.str s) = true
    rw [keq_str]
    simp only [decide_eq_true_eq]
    exact fun e => h (by rw [← e]; exact List.mem_map.mpr ⟨p, hp, rfl⟩)
  unfold dicPut
  rw [e, if_neg Bool.false_ne_true]; unfold wayK
  rw [List.map_append]; rfl
theorem fIdx_way {fd : Way} {s : Str} {l : List Str} (nd : (keysW fd).Nodup) (h : (s, l) ∈ fd) : fIdx (.dic (wayK fd)) (.str s) = some (.tup (l.map D.str)) := by
  unfold fIdx
  simp only
  rw [if_pos way_ok, way_find nd h]
theorem way_notIn {fd : Way} {s : Str} (nd : (keysW fd).Nodup) : fNotIn (.str s) (.dic (wayK fd)) = some (.bl (decide (s ∉ keysW fd))) := by
  unfold fNotIn fIn
  simp only
  rw [if_pos way_ok]
  by_cases h : s ∈ keysW fd
  · obtain ⟨p, hp, e⟩ := List.mem_map.mp h
    obtain ⟨s', l⟩ := p
    cases e
    rw [way_find nd hp]
    simp [h]
  · rw [way_none h]
    simp [h]
theorem keysW_snoc (fd : Way) (s : Str) (l : List Str) : keysW (fd ++ [(s, l)]) = keysW fd ++ [s] := by unfold keysW; rw [List.map_append]; rfl
/-- what holds of the ways found so far -/
structure WaOk (ns : List Str) (es : List Sec) (u : Str) (fd : Way) : Prop where
  nd : (keysW fd).Nodup
  way : ∀ p ∈ fd, Walk (Adj es) (u :: p.2) ∧ (u :: p.2).Nodup ∧ (u :: p.2).getLast? = some p.1 ∧ ∀ x ∈ p.2, x ∈ keysW fd
  sub : ∀ s ∈ keysW fd, s ∈ ns
  uk : u ∈ keysW fd
theorem walk_snoc {α : Type} {E : α → α → Prop} {y z : α} (hy : E y z) : ∀ {l : List α}, Walk E l → l.getLast? = some y → Walk E (l ++ [z])
  | [], _, _ => trivial
  | [a], _, h => by
    have : a = y := by simpa using h
    subst this
    exact ⟨hy, trivial⟩
  | a :: b :: r, w, h => ⟨w.1, walk_snoc hy (l := b :: r) w.2 (by rw [List.getLast?_cons_cons] at h; exact h)⟩
theorem WaOk.more {ns : List Str} {es : List Sec} {u here there : Str} {l : List Str} {fd : Way} (h : WaOk ns es u fd) (hh : (here, l) ∈ fd) (hn : there ∉ keysW fd) (ht : there ∈ ns) (ha : Adj es here there) : WaOk ns es u (fd ++ [(there, l ++ [there])]) := by
  have mono : ∀ {s}, s ∈ keysW fd → s ∈ keysW (fd ++ [(there, l ++ [there])]) := fun {s} hs => by rw [keysW_snoc]; exact List.mem_append_left _ hs
  obtain ⟨w1, w2, w3, w4⟩ := h.way _ hh
  refine ⟨?_, fun p hp => ?_, fun s hs => ?_, mono h.uk⟩
  · rw [keysW_snoc]
    refine List.nodup_append.mpr ⟨h.nd, by simp, fun a ha b hb e => hn ?_⟩
    rw [← List.mem_singleton.mp hb, ← e]; exact ha
  · rcases List.mem_append.mp hp with hp0 | hp
    · obtain ⟨a, b, c, d⟩ := h.way p hp0
      exact ⟨a, b, c, fun x hx => mono (d x hx)⟩
    · cases List.mem_singleton.mp hp
      refine ⟨walk_snoc (l := u :: l) ha w1 w3, ?_, (by rw [show u :: (there, l ++ [there]).2 = (u :: l) ++ [there] from rfl, List.getLast?_append]; rfl), fun x hx => ?_⟩
      · show ((u :: l) ++ [there]).Nodup
        refine List.nodup_append.mpr ⟨w2, by simp, fun a ha b hb e => hn ?_⟩
        rw [← List.mem_singleton.mp hb, ← e]; rcases List.mem_cons.mp ha with e | ha
        · rw [e]; exact h.uk
        · exact w4 a ha
      · rcases List.mem_append.mp hx with hx0 | hx
        · exact mono (w4 x hx0)
        · rw [keysW_snoc]; exact List.mem_append_right _ hx
  · rw [keysW_snoc] at hs
    rcases List.mem_append.mp hs with hs | hs
    · exact h.sub s hs
    · rw [List.mem_singleton.mp hs]; exact ht
theorem WaOk.path {ns : List Str} {es : List Sec} {u s : Str} {l : List Str} {fd : Way} (h : WaOk ns es u fd) (hs : (s, l) ∈ fd) : PathOf ns es u s (u :: l) := by
  obtain ⟨a, b, c, d⟩ := h.way _ hs
  refine ⟨a, b, fun x hx => ?_, rfl, c⟩; rcases List.mem_cons.mp hx with e | hx
  · rw [e]; exact h.sub _ h.uk
  · exact h.sub _ (d x hx)
def waysB : DS := (sThen (sSets [2, 3] (dCons (dDisp (dVar 1) (dOp semTup dNil)) (dCons (dOp semLst (dCons (dVar 1) dNil)) dNil)))
  (sThen (sFor (dRange1 (d1 fLen (dVar 0))) (tgName 4) (sThen (sMtSet 5 3 mPopAt (dCons (dC (.int 0)) dNil))
  (sFor (dItems (d2 fIdx (dVar 0) (dVar 5))) (tgName 6) (sIf (asB (d2 fNotIn (dVar 6) (dOwn 2))) (sThen (sDicPut 2 (dVar 6) (d2 fAdd (d2 fIdx (dOwn 2) (dVar 5)) (dOp semTup (dCons (dVar 6) dNil))))
  (sMt 3 mAppend (dCons (dVar 6) dNil))) sSkip))))
  (sRet (dVar 2))))
theorem tells_ways {m : Nat} {sorts ns : List Str} {es : List Sec} {d : D} {u : Str} (h : LineOf m sorts ns es d) (hu : u ∈ ns) (hm : m ≤ 900) :
    Tells (runD 7 waysB) [.dic (nearK ns (nbL es)), .str u] (fun d => ∃ fd, d = .dic (wayK fd) ∧ WaOk ns es u fd ∧ ∀ s, s ∈ keysW fd ↔ s ∈ ns) := by
  have hf := h.fits
  have nbN : ∀ {u v : Str}, v ∈ nbL es u → v ∈ ns := fun {u v} hv => by
    obtain ⟨x, hx, j⟩ := (adj_iff hf).mp hv
    exact j.elim (fun z => z.2 ▸ (hf x hx).2.1) fun z => z.1 ▸ (hf x hx).1
  have nl : ns.length = m := h.nms.len
  have kl : ∀ {fd : Way}, WaOk ns es u fd → fd.length ≤ m := fun {fd} z => by
    have := nd_len z.nd z.sub
    unfold keysW at this
    rw [List.length_map] at this
    omega
  refine tells_run ?_
  unfold waysB
  generalize hL : (.dic (nearK ns (nbL es)) : D) = L
  have s0 : startG 7 [L, .str u] = [some L, some (.str u), none, none, none, none, none] := rfl
  rw [s0]
  refine does_then (Pm := fun G => G = [some L, some (.str u), some (.dic (wayK [(u, [])])), some (.lst [.str u]), none, none, none]) (does_sets (PL := (· = [.dic (wayK [(u, [])]), .lst [.str u]])) (saysL_cons (P1 := (· = .dic (wayK [(u, [])]))) (PL := (· = [.lst [.str u]])) (fun B g => ⟨_, B, by unfold dDisp dOp dNil dVar; simp only [Option.bind_some, Option.map_some, semTup_ok (ds := []) (by simp)]; rfl, g, rfl⟩) (saysL_one (says_op (saysL_one (says_var (d := .str u) rfl)) fun ds e => by subst e; exact ⟨_, semLst_ok (by simp), rfl⟩)) fun _ _ ea eb => by rw [ea, eb]) fun ds e => by subst e; rfl) fun G e1 => ?_
  subst e1
  let In : Nat → Gam → Prop := fun i G => ∃ (fd : Way) (todo : List Str) (y4 y5 y6 : Option D), G = [some L, some (.str u), some (.dic (wayK fd)), some (.lst (todo.map D.str)), y4, y5, y6] ∧ WaOk ns es u fd ∧ (∀ s ∈ todo, s ∈ keysW fd) ∧ (∀ s ∈ keysW fd, s ∈ todo ∨ ∀ v ∈ nbL es s, v ∈ keysW fd) ∧ fd.length = i + todo.length
  have ok0 : WaOk ns es u [(u, [])] := by
    refine ⟨by simp [keysW], fun p hp => ?_, fun s hs => ?_, by simp [keysW]⟩
    · cases List.mem_singleton.mp hp
      exact ⟨trivial, by simp, rfl, fun x hx => by cases hx⟩
    · have : s = u := by simpa [keysW] using hs
      rw [this]; exact hu
  refine does_then (Pm := In m) (does_for (ds := rangeD 0 (m : Int)) (Inv := In) (saysL_range1 (Q := (· = (m : Int))) (PS := (· = rangeD 0 (m : Int))) (says_d1 (P1 := (· = L)) (says_var rfl) fun d e => by subst e; rw [← hL]; exact ⟨.int ((nearK ns (nbL es)).length : Nat), rfl, by unfold nearK; rw [List.length_map, nl]; exact .mk rfl⟩) fun i e => by subst e; exact ⟨by omega, rfl⟩) ⟨[(u, [])], [u], none, none, none, rfl, ok0, fun s hs => by rw [List.mem_singleton.mp hs]; simp [keysW], fun s hs => ?_, rfl⟩ ?_ fun G hG => by rw [rangeD_len] at hG; simpa using hG) fun G ⟨fd, todo, y4, y5, y6, e1, ok, tk, cl, hn⟩ => ?_
  · have : s = u := by simpa [keysW] using hs
    rw [this]; exact .inl List.mem_cons_self
  · rintro i d G hd ⟨fd, todo, y4, y5, y6, rfl, ok, tk, cl, hn⟩
    obtain ⟨rfl, hi⟩ := rangeD_get hd
    refine ⟨_, rfl, ?_⟩
    have him : i < m := by omega
    have ne : todo ≠ [] := fun e => by
      subst e
      have all := h.closed (S := (· ∈ keysW fd)) (fun u hu => (cl u hu).resolve_left fun z => nomatch z) hu ok.uk
      have := nd_len h.nms.nd all
      unfold keysW at this
      rw [List.length_map] at this
      simp only [List.length_nil] at hn
      omega
    obtain ⟨here, rest, rfl⟩ := List.exists_cons_of_ne_nil ne
    have hh : here ∈ keysW fd := tk here List.mem_cons_self
    have hhn : here ∈ ns := ok.sub here hh
    rw [List.length_cons] at hn
    have kl0 := kl ok
    refine does_then (Pm := fun G => G = [some L, some (.str u), some (.dic (wayK fd)), some (.lst (rest.map D.str)), some (.int (0 + (i : Int))), some (.str here), y6]) (does_mtSet (ds := (here :: rest).map D.str) rfl (saysL_one says_c) (by rw [List.map_cons]; exact mPopAt_cons _ _ (by rw [List.length_map]; omega)) rfl) fun G e1 => ?_
    subst e1
    let Jn : Nat → Gam → Prop := fun j G => ∃ (fd : Way) (todo : List Str) (y6 : Option D), G = [some L, some (.str u), some (.dic (wayK fd)), some (.lst (todo.map D.str)), some (.int (0 + (i : Int))), some (.str here), y6] ∧ WaOk ns es u fd ∧ here ∈ keysW fd ∧ (∀ s ∈ todo, s ∈ keysW fd) ∧ (∀ s ∈ keysW fd, s = here ∨ s ∈ todo ∨ ∀ v ∈ nbL es s, v ∈ keysW fd) ∧ (∀ v ∈ (nbL es here).take j, v ∈ keysW fd) ∧ fd.length = i + 1 + todo.length
    refine does_for (ds := (nbL es here).map D.str) (Inv := Jn) (saysL_items (d := .lst ((nbL es here).map D.str)) (says_d2 (P1 := (· = L)) (P2 := (· = .str here)) (says_var rfl) (says_var rfl) fun d e e1 e2 => by subst e1 e2; rw [← hL]; exact ⟨_, fIdx_near hhn, rfl⟩) rfl) ⟨fd, rest, y6, rfl, ok, hh, fun s hs => tk s (List.mem_cons_of_mem _ hs), fun s hs => ?_, fun v hv => by simp at hv, by omega⟩ ?_ ?_
    · rcases cl s hs with h1 | h1
      · rcases List.mem_cons.mp h1 with h1 | h1
        · exact .inl h1
        · exact .inr (.inl h1)
      · exact .inr (.inr h1)
    · rintro j d G hd ⟨fd, todo, z6, rfl, ok, hh, tk, cl, got, hw⟩
      rw [List.getElem?_map] at hd
      cases hx : (nbL es here)[j]? with
      | none => rw [hx] at hd; cases hd
      | some there =>
        rw [hx] at hd; cases hd
        have hth : there ∈ nbL es here := List.mem_of_getElem? hx
        have tk2 : ∀ v, v ∈ (nbL es here).take (j + 1) → v ∈ (nbL es here).take j ∨ v = there := fun v hv => by
          rw [List.take_add_one, hx] at hv
          rcases List.mem_append.mp hv with hv | hv
          · exact .inl hv
          · exact .inr (by simpa using hv)
        refine ⟨_, rfl, does_if (PT := fun c => c = decide (there ∉ keysW fd)) (saysT_asB (says_d2 (P1 := (· = .str there)) (P2 := (· = .dic (wayK fd))) (says_var rfl) (says_ownD rfl) fun d e e1 e2 => by subst e1 e2; exact ⟨_, way_notIn ok.nd, _, rfl, rfl⟩)) (fun hc => ?_) fun hc => ?_⟩
        · have hno : there ∉ keysW fd := of_decide_eq_true hc.symm
          obtain ⟨⟨here', l⟩, hp', ep⟩ := List.mem_map.mp hh
          have hp : (here, l) ∈ fd := by
            have e : here' = here := ep
            rw [← e]; exact hp'
          have ok' := ok.more hp hno (nbN hth) hth
          have kl' := kl ok'
          rw [List.length_append] at kl'
          simp only [List.length_nil, List.length_cons] at kl'
          have ll : l.length ≤ m := by
            have := (ok.path hp).len
            rw [List.length_cons] at this
            omega
          have mono : ∀ {s}, s ∈ keysW fd → s ∈ keysW (fd ++ [(there, l ++ [there])]) := fun {s} hs => by rw [keysW_snoc]; exact List.mem_append_left _ hs
          have new : there ∈ keysW (fd ++ [(there, l ++ [there])]) := by rw [keysW_snoc]; simp
          refine does_then (Pm := fun G => G = [some L, some (.str u), some (.dic (wayK (fd ++ [(there, l ++ [there])]))), some (.lst (todo.map D.str)), some (.int (0 + (i : Int))), some (.str here), some (.str there)]) (does_dicPut (k := .str there) (v := .tup ((l ++ [there]).map D.str)) rfl (says_d2 (P1 := (· = .tup (l.map D.str))) (P2 := (· = .tup [.str there])) (says_d2 (P1 := (· = .dic (wayK fd))) (P2 := (· = .str here)) (says_ownD rfl) (says_var rfl) fun d e e1 e2 => by subst e1 e2; exact ⟨_, fIdx_way ok.nd hp, rfl⟩) (says_op (saysL_one (says_var (d := .str there) rfl)) fun ds e => by subst e; exact ⟨_, semTup_ok (by simp), rfl⟩) fun d e e1 e2 => by
            subst e1 e2
            refine ⟨.tup (l.map D.str ++ [.str there]), ?_, by rw [List.map_append]; rfl⟩
            unfold fAdd
            simp only
            rw [if_pos (line1000 (by rw [List.length_map]; simp only [List.length_nil, List.length_cons]; omega))]) (says_var rfl) way_ok (by unfold wayK; rw [List.length_map]; omega) (by rw [way_put hno]; rfl)) fun G e1 => ?_
          subst e1
          refine does_mt draws_take (ds := todo.map D.str) rfl (PL := (· = [.str there])) (saysL_one (says_var rfl)) fun es' e1 => ?_
          subst e1
          refine ⟨_, _, app_ok (by rw [List.length_map]; omega), fd ++ [(there, l ++ [there])], todo ++ [there], some (.str there), by rw [List.map_append]; rfl, ok', mono hh, fun s hs => ?_, fun s hs => ?_, fun v hv => ?_, ?_⟩
          · rcases List.mem_append.mp hs with hs | hs
            · exact mono (tk s hs)
            · rw [List.mem_singleton.mp hs]; exact new
          · rw [keysW_snoc] at hs
            rcases List.mem_append.mp hs with hs | hs
            · rcases cl s hs with c | c | c
              · exact .inl c
              · exact .inr (.inl (List.mem_append_left _ c))
              · exact .inr (.inr fun v hv => mono (c v hv))
            · exact .inr (.inl (List.mem_append_right _ hs))
          · rcases tk2 v hv with hv | hv
            · exact mono (got v hv)
            · rw [hv]; exact new
          · rw [List.length_append, List.length_append]
            simp only [List.length_nil, List.length_cons]
            omega
        · have hin : there ∈ keysW fd := by simpa using of_decide_eq_false hc.symm
          exact does_skip ⟨fd, todo, some (.str there), rfl, ok, hh, tk, cl, fun v hv => (tk2 v hv).elim (got v) fun z => z ▸ hin, hw⟩
    · rintro G ⟨fd, todo, z6, rfl, ok, hh, tk, cl, got, hw⟩
      rw [List.length_map, List.take_length] at got
      refine ⟨fd, todo, _, _, _, rfl, ok, tk, fun s hs => ?_, hw⟩
      rcases cl s hs with c | c | c
      · subst c; exact .inr got
      · exact .inl c
      · exact .inr c
  · subst e1
    have kl0 := kl ok
    have e0 : todo = [] := List.length_eq_zero_iff.mp (by omega)
    subst e0
    refine does_ret ((says_var (d := .dic (wayK fd)) rfl).mono fun d e2 => ⟨fd, e2, ok, fun s => ⟨ok.sub s, fun hs => ?_⟩⟩)
    exact h.closed (S := (· ∈ keysW fd)) (fun u hu => (cl u hu).resolve_left fun z => nomatch z) hu ok.uk s hs
end Xa
/-! YC9: what can be compared and shown. -/
namespace Xa
open PySem PySem.Spec PyProof.Rows L2 TL
mutual
/-- texts, truths, None, and small numbers, in tuples and lists -/
def txt : D → Bool
  | .non => true
  | .bl _ => true
  | .int i => decide ((PyData.shown (.int i)).length ≤ 13) && decide (i.natAbs.log2 < 1920)
  | .str w => PyData.strOk w
  | .tup l => txtL l
  | .lst l => txtL l
  | .dic _ => false
  | .exc _ _ => false
def txtL : List D → Bool
  | [] => true
  | d :: r => txt d && txtL r
end
theorem strOk_lt {w : Str} (h : PyData.strOk w = true) : ∀ c ∈ w.cps.toList, c < 16 ^ 8 := by
  unfold PyData.strOk at h
  rw [← Array.all_toList] at h
  intro c hc
  have := List.all_eq_true.mp h c hc
  simp only [decide_eq_true_eq] at this
  omega
mutual
theorem txt_ok : ∀ d : D, txt d = true → PyData.canLay0 (py d) = true ∧ PyData.showable (py d) = true ∧ PyData.leavesShort 13 (py d) = true
  | .non, _ => ⟨rfl, rfl, rfl⟩
  | .bl _, _ => ⟨rfl, rfl, rfl⟩
  | .int i, h => by
    unfold txt at h
    rw [Bool.and_eq_true] at h
    exact ⟨rfl, h.2, h.1⟩
  | .str w, h => by
    refine ⟨h, rfl, ?_⟩
    show (w.cps.toList.all fun c => decide (c < 16 ^ 8)) = true
    exact List.all_eq_true.mpr fun c hc => decide_eq_true (strOk_lt h c hc)
  | .tup l, h => txtL_ok l h
  | .lst l, h => txtL_ok l h
  | .dic _, h => nomatch h
  | .exc _ _, h => nomatch h
theorem txtL_ok : ∀ l : List D, txtL l = true → PyData.canLayAll0 (pyL l) = true ∧ PyData.showableAll (pyL l) = true ∧ PyData.leavesShortAll 13 (pyL l) = true
  | [], _ => ⟨rfl, rfl, rfl⟩
  | d :: r, h => by
    unfold txtL at h
    rw [Bool.and_eq_true] at h
    obtain ⟨a1, a2, a3⟩ := txt_ok d h.1
    obtain ⟨b1, b2, b3⟩ := txtL_ok r h.2
    unfold pyL PyData.canLayAll0 PyData.showableAll PyData.leavesShortAll
    rw [a1, a2, a3, b1, b2, b3]
    exact ⟨rfl, rfl, rfl⟩
end
/-- of so many depths and so much weight -/
structure Nice (k n : Nat) (d : D) : Prop where
  tx : txt d = true
  dep : PyData.depth (py d) ≤ k
  wt : PyData.weight (py d) ≤ n
theorem Nice.mono {k n k' n' : Nat} {d : D} (h : Nice k n d) (hk : k ≤ k') (hn : n ≤ n') : Nice k' n' d := ⟨h.tx, Nat.le_trans h.dep hk, Nat.le_trans h.wt hn⟩
theorem Nice.okR {k n : Nat} {d : D} (h : Nice k n d) (hk : k ≤ 64) (hn : n ≤ 1000000) : okRepr d = true := by
  obtain ⟨a1, a2, a3⟩ := txt_ok d h.tx
  unfold okRepr
  have h1 : shp d = true := by
    unfold shp SeqAt.shaped
    rw [a1, decide_eq_true (Nat.le_trans h.dep hk)]; rfl
  have h2 := PyData.shown_fits (B := 13) (by decide) (by decide) a3 (Nat.le_trans h.wt (Nat.le_trans hn (by decide)))
  rw [h1, a2, PyData.hasDict_of_canLay _ a1, decide_eq_true h2]; rfl
theorem Nice.pl {k n : Nat} {d : D} (h : Nice k n d) : (py d).plain = true := PyData.plain_of_canLay0 _ (txt_ok d h.tx).1
theorem Nice.sh {k n : Nat} {d : D} (h : Nice k n d) (hk : k ≤ 64) : shp d = true := by
  unfold shp SeqAt.shaped
  rw [(txt_ok d h.tx).1, decide_eq_true (Nat.le_trans h.dep hk)]; rfl
theorem nice_non {k n : Nat} : Nice k n .non := ⟨rfl, Nat.zero_le _, Nat.zero_le _⟩
theorem nice_bl {k n : Nat} {c : Bool} : Nice k n (.bl c) := ⟨rfl, Nat.zero_le _, Nat.zero_le _⟩
theorem nice_str {k n : Nat} {w : Str} (h : Lay w) (hl : w.length ≤ n) : Nice k n (.str w) := ⟨h, Nat.zero_le _, hl⟩
theorem niceL {k n : Nat} : ∀ {ds : List D}, (∀ d ∈ ds, Nice k n d) → txtL ds = true ∧ PyData.depthAll (pyL ds) ≤ k ∧ PyData.weightAll (pyL ds) ≤ (n + 1) * ds.length
  | [], _ =>
      ⟨rfl, Nat.zero_le _, Nat.zero_le _⟩
  | d :: r, h => by
    have h0 := h d List.mem_cons_self
    obtain ⟨a, b, c⟩ := niceL (ds := r) fun x hx => h x (List.mem_cons_of_mem _ hx)
    have e1 := h0.wt
    have e2 := h0.dep
    unfold txtL pyL PyData.depthAll PyData.weightAll
    rw [h0.tx, a]
    refine ⟨rfl, by omega, ?_⟩
    rw [List.length_cons, Nat.mul_add, Nat.mul_one]
    omega
theorem nice_tup {k n c : Nat} {ds : List D} (h : ∀ d ∈ ds, Nice k n d) (hc : ds.length ≤ c) : Nice (k + 1) ((n + 1) * c) (.tup ds) := by
  obtain ⟨a, b, w⟩ := niceL h
  refine ⟨a, Nat.succ_le_succ b, Nat.le_trans w (Nat.mul_le_mul_left _ hc)⟩
theorem nice_lst {k n c : Nat} {ds : List D} (h : ∀ d ∈ ds, Nice k n d) (hc : ds.length ≤ c) : Nice (k + 1) ((n + 1) * c) (.lst ds) := by
  obtain ⟨a, b, w⟩ := niceL h
  refine ⟨a, Nat.succ_le_succ b, Nat.le_trans w (Nat.mul_le_mul_left _ hc)⟩
theorem nice_alike {k n : Nat} {d : D} (h : Nice k n d) (hk : k ≤ 64) (hn : n ≤ 1000000) : Tells (runD 2 alikeB) [d, d] (· = .bl true) := tells_alike (h.okR hk hn) h.pl
theorem nice_repr {k n : Nat} {d : D} (h : Nice k n d) (hk : k ≤ 64) (hn : n ≤ 1000000) : fRepr d = some (.str (PyData.shown (py d))) := by
  unfold fRepr
  rw [if_pos (h.okR hk hn)]
section
variable {m : Nat} {sorts ns : List Str} {es : List Sec} {d : D}
theorem Word.len12 {w : Str} (h : Word 12 w) : w.length ≤ 12 := by rw [len_tl]; exact h.le
theorem LineOf.nN (h : LineOf m sorts ns es d) {k : Nat} {w : Str} (hw : w ∈ ns) : Nice k 12 (.str w) := nice_str (h.layN w hw) (h.nms.word w hw).len12
theorem sort_nice {k : Nat} {s : Str} (h : s ∈ sorts3) : Nice k 12 (.str s) := nice_str (lay3 s h) (by
  unfold sorts3 at h
  simp only [List.mem_cons, List.not_mem_nil, or_false] at h
  rcases h with rfl | rfl | rfl <;> decide +kernel)
theorem LineOf.nS (h : LineOf m sorts ns es d) (hs : ∀ s ∈ sorts, s ∈ sorts3) {x : Sec} (hx : x ∈ es) : Nice 1 39 x.d :=
  (nice_tup (k := 0) (n := 12) (c := 3) (ds := [.str x.a, .str x.b, .str x.s]) (fun d hd => by
    have hf := h.fits x hx
    simp only [List.mem_cons, List.not_mem_nil, or_false] at hd
    rcases hd with rfl | rfl | rfl
    · exact h.nN hf.1
    · exact h.nN hf.2.1
    · exact sort_nice (hs _ (h.lt x hx).2)) (by simp)).mono (by decide) (by decide)
theorem LineOf.nK (h : LineOf m sorts ns es d) {a b : Str} (ha : a ∈ ns) (hb : b ∈ ns) : Nice 1 26 (.tup [.str a, .str b]) :=
  (nice_tup (k := 0) (n := 12) (c := 2) (ds := [.str a, .str b]) (fun d hd => by
    simp only [List.mem_cons, List.not_mem_nil, or_false] at hd
    rcases hd with rfl | rfl
    · exact h.nN ha
    · exact h.nN hb) (by simp)).mono (by decide) (by decide)
theorem LineOf.nT (h : LineOf m sorts ns es d) (hm : m ≤ 24) {l : List Str} (hl : ∀ w ∈ l, w ∈ ns) (hc : l.length ≤ 24) : Nice 1 312 (.tup (l.map D.str)) :=
  (nice_tup (k := 0) (n := 12) (c := 24) (ds := l.map D.str) (fun d hd => by
    obtain ⟨w, hw, rfl⟩ := List.mem_map.mp hd
    exact h.nN (hl w hw)) (by rw [List.length_map]; exact hc)).mono (by decide) (by decide)
theorem LineOf.nD (h : LineOf m sorts ns es d) (hm : m ≤ 24) (hs : ∀ s ∈ sorts, s ∈ sorts3) : Nice 3 5000 d := by
  rw [h.eq]
  refine (nice_tup (k := 2) (n := 1000) (c := 2) (ds := [.tup (ns.map D.str), .tup (es.map Sec.d)]) (fun d hd => ?_) (by simp)).mono (by decide) (by decide)
  simp only [List.mem_cons, List.not_mem_nil, or_false] at hd
  rcases hd with rfl | rfl
  · exact (h.nT hm (fun w hw => hw) (by rw [h.nms.len]; exact hm)).mono (by decide) (by decide)
  · refine (nice_tup (k := 1) (n := 39) (c := 24) (ds := es.map Sec.d) (fun d hd => ?_) (by rw [List.length_map, h.elen]; omega)).mono (by decide) (by decide)
    obtain ⟨x, hx, rfl⟩ := List.mem_map.mp hd
    exact h.nS hs hx
end
end Xa
/-! YD1: more rules; the defs by name. -/
namespace Xa
open PySem PySem.Spec PyProof.Rows L2 TL
abbrev takeF : FD := runD 7 takeB
abbrev someF : FD := runD 2 (someB takeF)
abbrev mixedF : FD := runD 4 (mixedB takeF)
abbrev alikeF : FD := runD 2 alikeB
abbrev wordF : FD := runD 4 (wordB takeF someF)
abbrev namesF : FD := runD 15 (namesB takeF someF wordF mixedF)
abbrev lineF : FD := runD 10 (lineB takeF someF namesF)
abbrev overF : FD := runD 7 (overB takeF someF mixedF)
abbrev sortsF : FD := runD 2 (mixedSortsB someF)
abbrev keyF : FD := runD 2 keyB
abbrev sectionF : FD := runD 4 (sectionB keyF)
abbrev keysF : FD := runD 2 keysB
abbrev sortOfF : FD := runD 2 (sortOfB sectionF)
abbrev otherF : FD := runD 2 otherB
abbrev neighboursF : FD := runD 3 (neighboursB keysF otherF)
abbrev linksF : FD := runD 5 linksB
abbrev nearF : FD := runD 6 nearB
noncomputable abbrev stepsF : FD := runD 6 stepsB
noncomputable abbrev pathF : FD := runD 3 pathB
noncomputable abbrev wayF : FD := runD 4 (wayB linksF stepsF pathF)
abbrev waysF : FD := runD 7 waysB
section
variable {f f1 f2 : DE} {fs : DA} {u : DT} {s : DS} {G : Gam} {P P' : D → Prop} {R : D → Prop} {Pn : Gam → Prop}
/-- if not so: .. ; and it is so -/
theorem does_unless (h : Says f G (· = .bl true)) (p : Pn G) : Does (sIf (tNotD (asB f)) s sSkip) G Pn R :=
  does_if (PT := (· = false)) (saysT_not (PT := (· = true)) (saysT_asB (h.mono fun d e => ⟨true, e, rfl⟩)) fun c e => by rw [e]; rfl) (fun e => nomatch e) fun _ => does_skip p
theorem does_ifnot (h : SaysT u G (· = false)) (p : Pn G) : Does (sIf u s sSkip) G Pn R := does_if h (fun e => nomatch e) fun _ => does_skip p
/-- a walk over what was drawn: each turn keeps J -/
theorem does_each {src : DA} {tgt : TgD} {body : DS} {PS : List D → Prop} {J : Gam → Prop} (h : SaysL src G PS) (h0 : J G) (step : ∀ ds, PS ds → ∀ d ∈ ds, ∀ G, J G → ∃ G1, tgt G d = some G1 ∧ Does body G1 J R) (hn : ∀ G, J G → Pn G) : Does (sFor src tgt body) G Pn R := fun B g => by
  obtain ⟨ds, B1, e1, g1, p⟩ := h B g
  obtain ⟨o, e, q⟩ := does_for (src := fun _ B => some (ds, B)) (tgt := tgt) (body := body) (ds := ds) (Inv := fun _ => J) (R := R) (Pn := Pn) (fun B g => ⟨ds, B, rfl, g, rfl⟩) h0 (fun i d G hd hj => step ds p d (List.mem_of_getElem? hd) G hj) hn B1 g1
  refine ⟨o, ?_, q⟩
  unfold sFor at e ⊢
  rw [e1, Option.bind_some]
  exact e
theorem saysL_itemsP {PS : List D → Prop} (h : Says f G P) (z : ∀ d, P d → ∃ ds, items d = some ds ∧ PS ds) : SaysL (dItems f) G PS := fun B g => by
  obtain ⟨d, B1, e1, g1, p⟩ := h B g
  obtain ⟨ds, e, q⟩ := z d p
  exact ⟨ds, B1, by unfold dItems; rw [e1, Option.bind_some]; simp only; rw [e]; rfl, g1, q⟩
theorem says_cutTo2 {k : Int} (h : Says f G P) (z : ∀ d, P d → ∃ r, fCut d none (some k) = some r ∧ P' r) : Says (dCut f pNo (pAt (dC (.int k)))) G P' := fun B g => by
  obtain ⟨d, B1, e1, g1, p⟩ := h B g
  obtain ⟨r, e, q⟩ := z d p
  refine ⟨r, B1, ?_, g1, q⟩
  unfold dCut pNo pAt dC
  rw [e1, Option.bind_some]
  simp only [Option.bind_some]
  rw [e]; rfl
/-- of two things told -/
theorem says_2 {F : D → D → Option D} {a b r : D} (h1 : Says f1 G (· = a)) (h2 : Says f2 G (· = b)) (e : F a b = some r) : Says (d2 F f1 f2) G (· = r) := says_d2 h1 h2 fun d d' e1 e2 => by subst e1 e2; exact ⟨r, e, rfl⟩
theorem says_1 {F : D → Option D} {a r : D} (h1 : Says f1 G (· = a)) (e : F a = some r) : Says (d1 F f1) G (· = r) := says_d1 h1 fun d e1 => by subst e1; exact ⟨r, e, rfl⟩
theorem saysL_2 {a b : D} (h1 : Says f1 G (· = a)) (h2 : Says f2 G (· = b)) : SaysL (dCons f1 (dCons f2 dNil)) G (· = [a, b]) := saysL_cons (PL := (· = [b])) h1 (saysL_one h2) fun _ _ ea eb => by rw [ea, eb]
theorem saysL_3 {f3 : DE} {a b c : D} (h1 : Says f1 G (· = a)) (h2 : Says f2 G (· = b)) (h3 : Says f3 G (· = c)) : SaysL (dCons f1 (dCons f2 (dCons f3 dNil))) G (· = [a, b, c]) := saysL_cons (PL := (· = [b, c])) h1 (saysL_2 h2 h3) fun _ _ ea eb => by rw [ea, eb]
theorem says_lst {ds : List D} (h : SaysL fs G (· = ds)) (hl : ds.length ≤ 1000) : Says (dOp semLst fs) G (· = .lst ds) := says_op h fun es e => by subst e; exact ⟨_, semLst_ok hl, rfl⟩
theorem says_tup {ds : List D} (h : SaysL fs G (· = ds)) (hl : ds.length ≤ 1000) : Says (dOp semTup fs) G (· = .tup ds) := says_op h fun es e => by subst e; exact ⟨_, semTup_ok hl, rfl⟩
theorem says_call1 {F : FD} {a : D} (h1 : Says f1 G (· = a)) (h : Tells F [a] P) : Says (dCall F (dCons f1 dNil)) G P := says_call (saysL_one h1) fun ds e => by subst e; exact h
theorem says_call3 {F : FD} {f3 : DE} {a b c : D} (h1 : Says f1 G (· = a)) (h2 : Says f2 G (· = b)) (h3 : Says f3 G (· = c)) (h : Tells F [a, b, c] P) : Says (dCall F (dCons f1 (dCons f2 (dCons f3 dNil)))) G P := says_call (saysL_3 h1 h2 h3) fun ds e => by subst e; exact h
theorem says_lit {d : D} {i : Nat} (h : G[i]? = some (some d)) : Says (dVar i) G (· = d) := says_var (by unfold gat; rw [h]; rfl)
end
theorem idx0_lst {a : D} {l : List D} : fIdx (.lst (a :: l)) (.int 0) = some a := atI_nat (j := 0) rfl
theorem catL_ok {s t : List D} (h : s.length + t.length ≤ 1000) : fCatL (.lst s) (.lst t) = some (.lst (s ++ t)) := by
  unfold fCatL
  simp only
  rw [if_pos (line1000 (by omega))]
/-! sections of a LINE -/
section
variable {m : Nat} {sorts ns : List Str} {es : List Sec} {d : D}
theorem sLt_asymm {a b : Str} (h : sLt a b = true) : sLt b a = false := by
  unfold sLt at h ⊢
  have h1 := of_decide_eq_true h
  exact decide_eq_false fun h2 => List.lt_irrefl _ (List.lt_trans h1 h2)
theorem has_self {x : Sec} (h : sLt x.a x.b = true) : x.has x.a x.b = true := by
  unfold Sec.has
  rw [if_pos h]
  simp
theorem has_ab {x : Sec} {a b : Str} (h : sLt a b = true) (z : x.has a b = true) : x.a = a ∧ x.b = b := by
  unfold Sec.has at z
  rw [if_pos h] at z
  exact of_decide_eq_true z
/-- no two sections with the same ends -/
theorem LineOf.one (h : LineOf m sorts ns es d) {x y : Sec} (hx : x ∈ es) (hy : y ∈ es) (ea : x.a = y.a) (eb : x.b = y.b) : x = y := by
  obtain ⟨ns0, es0, hb, hl, p1, p2⟩ := h.tree
  have nd0 : ns0.Nodup := p1.nodup_iff.mp h.nms.nd
  have inj : ∀ {i j : Nat} {w : Str}, ns0[i]? = some w → ns0[j]? = some w → i = j := fun {i j w} a b =>
    (List.getElem?_inj (List.getElem?_eq_some_iff.mp a).1 nd0).mp (a.trans b.symm)
  obtain ⟨i, hi⟩ := List.getElem?_of_mem (p2.mem_iff.mp hx)
  obtain ⟨j, hj⟩ := List.getElem?_of_mem (p2.mem_iff.mp hy)
  obtain ⟨u, o, v, hu, ho, hv, jx, _, _⟩ := hb.join i x hi
  obtain ⟨u', o', v', hu', ho', hv', jy, _, _⟩ := hb.join j y hj
  have e : i = j := by
    unfold Sec.joins at jx jy
    rcases jx with ⟨a1, a2⟩ | ⟨a1, a2⟩ <;> rcases jy with ⟨b1, b2⟩ | ⟨b1, b2⟩
    · have := inj hu (w := u) (by rw [← a1, ea, b1]; exact hu')
      omega
    · have e1 : u = v' := by rw [← a1, ea, b1]
      have e2 : v = u' := by rw [← a2, eb, b2]
      subst e1 e2
      have := inj hu hv'
      have := inj hv hu'
      omega
    · have e1 : v = u' := by rw [← a1, ea, b1]
      have e2 : u = v' := by rw [← a2, eb, b2]
      subst e1 e2
      have := inj hu hv'
      have := inj hv hu'
      omega
    · have e2 : u = u' := by rw [← a2, eb, b2]
      subst e2
      have := inj hu hu'
      omega
  subst e
  rw [hi] at hj
  exact Option.some.inj hj
theorem LineOf.sec_eq (h : LineOf m sorts ns es d) {x : Sec} (hx : x ∈ es) : secD es x.a x.b = x.d := by
  have hlt := (h.lt x hx).1
  unfold secD
  cases e : es.find? (fun y => y.has x.a x.b) with
  | none => exact absurd (has_self hlt) (List.find?_eq_none.mp e x hx)
  | some y =>
    have h1 := List.find?_some e
    have h2 := List.mem_of_find?_eq_some e
    obtain ⟨e1, e2⟩ := has_ab hlt h1
    rw [h.one h2 hx e1 e2]
theorem keyD_ab {a b : Str} (h : sLt a b = true) : keyD b a = .tup [.str a, .str b] := by
  unfold keyD
  rw [if_neg (by rw [sLt_asymm h]; exact Bool.false_ne_true)]
/-- neighbours, sorted -/
def nbS (es : List Sec) (w : Str) : List D := sortD ((nbL es w).map D.str)
theorem LineOf.nbN (h : LineOf m sorts ns es d) {u v : Str} (hv : v ∈ nbL es u) : v ∈ ns := by
  obtain ⟨x, hx, j⟩ := (adj_iff h.fits).mp hv
  exact j.elim (fun z => z.2 ▸ (h.fits x hx).2.1) fun z => z.1 ▸ (h.fits x hx).1
theorem LineOf.srt (h : LineOf m sorts ns es d) (hm : m ≤ 900) (w : Str) : ∃ vs : List Str, nbS es w = vs.map D.str ∧ vs.Perm (nbL es w) ∧ fSorted (.lst ((nbL es w).map D.str)) = some (.lst (nbS es w)) := by
  obtain ⟨vs, e, p⟩ := sort_strs (nbL es w) (fun v hv => h.layN v (h.nbN hv)) (Nat.le_trans (nb_len _ _) (by rw [h.elen]; omega))
  have e2 : fSorted (.lst ((nbL es w).map D.str)) = some (.lst (nbS es w)) := by
    unfold fSorted at e ⊢
    simp only at e ⊢
    split at e
    · rename_i hz; rw [if_pos hz]; rfl
    · cases e
  rw [e2] at e
  exact ⟨vs, D.lst.inj (Option.some.inj e), p, e2⟩
theorem LineOf.tNb (h : LineOf m sorts ns es d) (hm : m ≤ 900) (w : Str) : Tells neighboursF [d, .str w] (· = .tup (nbS es w)) := by
  obtain ⟨vs, e1, p, e2⟩ := h.srt hm w
  have t := tells_neighbours (ns := .tup (ns.map D.str)) (es := es) (w := w) (by rw [h.elen]; omega) h.layE
  rw [h.eq]
  refine t.mono fun r ⟨vs', e3, e4⟩ => ?_
  rw [e2] at e3
  rw [e4, D.lst.inj (Option.some.inj e3)]
theorem memD_str {b : Str} {vs : List Str} (h : b ∈ vs) : memD (.str b) (vs.map D.str) = true := by
  unfold memD
  rw [List.any_map]
  exact List.any_eq_true.mpr ⟨b, h, by show PyData.eqv (.str b) (.str b) = true; simp [PyData.eqv]⟩
theorem notIn_strs {b : Str} {vs : List Str} (h : b ∈ vs) : fNotIn (.str b) (.tup (vs.map D.str)) = some (.bl false) := by
  unfold fNotIn fIn
  simp only
  have e : okIn (.str b) (vs.map D.str) = true := by
    unfold okIn
    have : (vs.map D.str).all isAtom = true := by rw [List.all_map]; exact List.all_eq_true.mpr fun _ _ => rfl
    rw [this]; rfl
  rw [if_pos e, memD_str h]; rfl
theorem LineOf.nbIn (h : LineOf m sorts ns es d) (hm : m ≤ 900) {u v : Str} (a : v ∈ nbL es u) : fNotIn (.str v) (.tup (nbS es u)) = some (.bl false) := by
  obtain ⟨vs, e1, p, _⟩ := h.srt hm u
  rw [e1]
  exact notIn_strs (p.mem_iff.mpr a)
end
end Xa
/-! YD2: the law of lines looked at, over data. -/
namespace Xa
open PySem PySem.Spec PyProof.Rows L2 TL
abbrev src8 : DE := (dCut (dCall mixedF (dCons (dVar 1) (dCons (d1 fList (d2 fIdx (dVar 4) (dC (.int 0)))) dNil))) pNo (pAt (dC (.int 8))))
noncomputable def pairB : DS := (sThen (sSet 11 (dComp (dItems (d2 fIdx (dVar 4) (dC (.int 1)))) [15] (tgName 15) (asB (d2 fEq (dCut (dVar 15) pNo (pAt (dC (.int 2)))) (dCall keyF (dCons (dVar 8) (dCons (dVar 10) dNil))))) (dVar 15)))
  (sThen (sSet 12 (dOp semLst (dCons (dCall sectionF (dCons (dVar 4) (dCons (dVar 8) (dCons (dVar 10) dNil)))) (dCons (dCall wayF (dCons (dVar 4) (dCons (dVar 8) (dCons (dVar 10) dNil)))) (dCons (dCall wayF (dCons (dVar 4) (dCons (dVar 8) (dCons (dVar 10) dNil)))) dNil)))))
  (sThen (sIf (tNotD (asB (dCall alikeF (dCons (dVar 12) (dCons (dOp semLst (dCons (d2 fIdx (d2 fCatL (dVar 11) (dOp semLst (dCons (dC .non) dNil))) (dC (.int 0))) (dCons (d2 fIdx (dVar 9) (dVar 10)) (dCons (d2 fIdx (dVar 9) (dVar 10)) dNil)))) dNil))))) (sRet (dC (.bl false))) sSkip)
  (sIf (tAndD (asB (d2 fNe (dVar 10) (dVar 8))) (tNotD (asB (dCall alikeF (dCons (dCall keyF (dCons (dVar 8) (dCons (dVar 10) dNil))) (dCons (dCall keyF (dCons (dVar 8) (dCons (dVar 10) dNil))) dNil)))))) (sRet (dC (.bl false))) sSkip))))
noncomputable def statB : DS := (sThen (sSet 9 (dCall waysF (dCons (dVar 5) (dCons (dVar 8) dNil))))
  (sThen (sIf (tNotD (asB (dCall alikeF (dCons (dCall neighboursF (dCons (dVar 4) (dCons (dVar 8) dNil))) (dCons (d1 fTuple (d1 fSorted (d2 fIdx (dVar 5) (dVar 8)))) dNil))))) (sRet (dC (.bl false))) sSkip)
  (sFor (dItems (d2 fCatL (dCut (dCall mixedF (dCons (dVar 1) (dCons (d1 fList (d2 fIdx (dVar 4) (dC (.int 0)))) dNil))) pNo (pAt (dC (.int 8)))) (dOp semLst (dCons (dVar 8) dNil)))) (tgName 10) pairB)))
noncomputable def rowB : DS := (sThen (sIf (tNotD (asB (dCall alikeF (dCons (dOp semLst (dCons (dCall sortOfF (dCons (dVar 4) (dCons (dOp semTup (dCons (dVar 13) (dCons (dVar 10) dNil))) dNil))) (dCons (dCall keyF (dCons (dVar 10) (dCons (dVar 13) dNil))) dNil))) (dCons (dOp semLst (dCons (dVar 14) (dCons (dOp semTup (dCons (dVar 13) (dCons (dVar 10) dNil))) dNil))) dNil))))) (sRet (dC (.bl false))) sSkip)
  (sIf (tOrD (asB (d2 fNotIn (dVar 10) (dCall neighboursF (dCons (dVar 4) (dCons (dVar 13) dNil))))) (asB (d2 fNotIn (dVar 13) (dCall neighboursF (dCons (dVar 4) (dCons (dVar 10) dNil)))))) (sRet (dC (.bl false))) sSkip))
noncomputable def oneB : DS := (sThen (sSets [5, 6] (dCons (dCall nearF (dCons (dVar 4) dNil)) (dCons (d1 fRepr (dVar 4)) dNil)))
  (sThen (sSet 7 (d1 fTuple (dComp (dItems (d2 fIdx (dVar 4) (dC (.int 1)))) [15] (tgName 15) dYes (dCut (dVar 15) pNo (pAt (dC (.int 2)))))))
  (sThen (sIf (tNotD (asB (dCall alikeF (dCons (dCall keysF (dCons (dVar 4) dNil)) (dCons (dVar 7) dNil))))) (sRet (dC (.bl false))) sSkip)
  (sThen (sFor (dItems (dCut (dCall mixedF (dCons (dVar 1) (dCons (d1 fList (d2 fIdx (dVar 4) (dC (.int 0)))) dNil))) pNo (pAt (dC (.int 8))))) (tgName 8) statB)
  (sThen (sFor (dItems (d2 fIdx (dVar 4) (dC (.int 1)))) (tgTup [13, 10, 14]) rowB)
  (sIf (asB (d2 fNe (d1 fRepr (dVar 4)) (dVar 6))) (sRet (dC (.bl false))) sSkip))))))
noncomputable def lawB04 : DS := (sThen (sSet 2 (dCall lineF (dCons (dVar 1) (dCons (dCall someF (dCons (dVar 1) (dCons (dOp semLst (dCons (dC (.int 5)) (dCons (dC (.int 3)) (dCons (dC (.int 8)) (dCons (dC (.int 2)) (dCons (dC (.int 1)) (dCons (dC (.int 24)) dNil))))))) dNil))) (dCons (dCall sortsF (dCons (dVar 1) dNil)) dNil)))))
  (sThen (sSet 3 (dOp semLst (dCons (dCall overF (dCons (dVar 1) (dCons (dVar 2) dNil))) (dCons (dCall lineF (dCons (dVar 1) (dCons (dCall someF (dCons (dVar 1) (dCons (dOp semLst (dCons (dC (.int 4)) (dCons (dC (.int 6)) (dCons (dC (.int 12)) dNil)))) dNil))) (dCons (dCall sortsF (dCons (dVar 1) dNil)) dNil)))) dNil))))
  (sThen (sFor (dItems (d2 fCatL (d2 fCatL (dOp semLst (dCons (dVar 2) dNil)) (dVar 3)) (dOp semLst (dCons (dVar 2) dNil)))) (tgName 4) oneB)
  (sRet (dC (.bl true))))))
/-- the slots of the law while a LINE is looked at -/
structure LwG (L near text keys : D) (G : Gam) : Prop where
  len : G.length = 16
  g1 : gat G 1 = some .non
  g4 : gat G 4 = some L
  g5 : gat G 5 = some near
  g6 : gat G 6 = some text
  g7 : gat G 7 = some keys
theorem LwG.set {L near text keys : D} {G : Gam} {i : Nat} {o : Option D} (h : LwG L near text keys G) (hi : 7 < i) : LwG L near text keys (G.set i o) :=
  ⟨by rw [List.length_set]; exact h.len, by rw [gat_ne (by omega)]; exact h.g1, by rw [gat_ne (by omega)]; exact h.g4, by rw [gat_ne (by omega)]; exact h.g5, by rw [gat_ne (by omega)]; exact h.g6, by rw [gat_ne (by omega)]; exact h.g7⟩
section
variable {m : Nat} {sorts ns : List Str} {es : List Sec} {L : D} {G : Gam}
theorem LineOf.says0 (h : LineOf m sorts ns es L) {i : Nat} (g : gat G i = some L) : Says (d2 fIdx (dVar i) (dC (.int 0))) G (· = .tup (ns.map D.str)) := says_2 (says_var g) says_c (by rw [h.eq]; exact atI_nat (j := 0) rfl)
theorem LineOf.says1 (h : LineOf m sorts ns es L) {i : Nat} (g : gat G i = some L) : Says (d2 fIdx (dVar i) (dC (.int 1))) G (· = .tup (es.map Sec.d)) := says_2 (says_var g) says_c (by rw [h.eq]; exact atI_nat (j := 1) rfl)
/-- some stations, drawn -/
theorem says_src8 (h : LineOf m sorts ns es L) (hm : m ≤ 24) (g1 : gat G 1 = some .non) (g4 : gat G 4 = some L) : Says src8 G (fun d => ∃ l : List Str, d = .lst (l.map D.str) ∧ (∀ w ∈ l, w ∈ ns) ∧ l.length ≤ 24) := by
  refine says_cutTo2 (P := fun d => ∃ l, d = .lst l ∧ l.Perm (ns.map D.str)) (says_call2 (a := .non) (b := .lst (ns.map D.str)) (says_var g1) (says_1 (h.says0 g4) rfl) (tells_mixed draws_take rfl (by rw [List.length_map, h.nms.len]; omega))) fun d ⟨l, e, p⟩ => ?_
  subst e
  obtain ⟨l', e⟩ := all_strs (l := cutD l none (some 8)) fun x hx => by
    obtain ⟨w, _, e⟩ := List.mem_map.mp (p.mem_iff.mp (mem_cut hx))
    exact ⟨w, e.symm⟩
  refine ⟨_, rfl, l', by rw [e], fun w hw => ?_, ?_⟩
  · have h1 : D.str w ∈ cutD l none (some 8) := by rw [e]; exact List.mem_map.mpr ⟨w, hw, rfl⟩
    obtain ⟨w', h2, e2⟩ := List.mem_map.mp (p.mem_iff.mp (mem_cut h1))
    rw [← D.str.inj e2]; exact h2
  · have h1 := congrArg List.length e
    rw [List.length_map] at h1
    have h2 : (cutD l none (some 8)).length ≤ l.length := len_cut
    rw [p.length_eq, List.length_map, h.nms.len] at h2
    omega
def hasD (u v : Str) (d : D) : Bool := match d with
  | .tup [.str a, .str b, .str s] => Sec.has ⟨a, b, s⟩ u v
  | _ => false
theorem gat_w {i j k : Nat} {d : D} (h : gat G j = some d) (hj : j ≠ i) (o o' : Option D) : gat ((G.set i o).set i o') j = some d := by
  rw [gat_ne (Ne.symm hj), gat_ne (Ne.symm hj)]; exact h
theorem says_due (h : LineOf m sorts ns es L) (hm : m ≤ 24) (hl : G.length = 16) (g4 : gat G 4 = some L) {u v : Str} (hu : u ∈ ns) (hv : v ∈ ns) (g8 : gat G 8 = some (.str u)) (g10 : gat G 10 = some (.str v)) :
    Says (dComp (dItems (d2 fIdx (dVar 4) (dC (.int 1)))) [15] (tgName 15) (asB (d2 fEq (dCut (dVar 15) pNo (pAt (dC (.int 2)))) (dCall keyF (dCons (dVar 8) (dCons (dVar 10) dNil))))) (dVar 15)) G (· = .lst ((es.filter (·.has u v)).map Sec.d)) := by
  refine (says_comp (ds := es.map Sec.d) (hasD u v) (fun d e => e = id d) (saysL_items (h.says1 g4) rfl) (line1000 (by rw [List.length_map, h.elen]; omega)) fun d hd => ?_).mono fun d ⟨es', e, p⟩ => ?_
  · obtain ⟨x, hx, rfl⟩ := List.mem_map.mp hd
    have e15 : gat (((wipeG G [15]).set 15 (some x.d)) : Gam) 15 = some x.d := gat_set (by show 15 < (G.set 15 none).length; rw [List.length_set, hl]; decide)
    refine ⟨_, rfl, saysT_asB (says_d2 (P1 := (· = x.key)) (P2 := (· = keyD u v)) (says_cut2 e15) (says_call2 (says_var (gat_w (k := 0) g8 (by decide) _ _)) (says_var (gat_w (k := 0) g10 (by decide) _ _)) tells_key) fun d e e1 e2 => ?_), fun _ => says_var e15⟩
    subst e1 e2
    obtain ⟨l1, l2⟩ := h.layE x hx
    exact ⟨_, fEq_key l1 l2 (h.layN u hu) (h.layN v hv), _, rfl, rfl⟩
  · subst e
    rw [paired_fun p, List.map_id, List.filter_map]
    rfl
theorem head_due {u v : Str} : fIdx (.lst ((es.filter (·.has u v)).map Sec.d ++ [.non])) (.int 0) = some (secD es u v) := by
  unfold secD
  cases e : es.filter (·.has u v) with
  | nil =>
    have : es.find? (fun x => x.has u v) = none := by rw [← List.head?_filter, e]; rfl
    rw [this]
    exact idx0_lst
  | cons x r =>
    have : es.find? (fun x => x.has u v) = some x := by rw [← List.head?_filter, e]; rfl
    rw [this]
    exact idx0_lst
theorem LineOf.nSec (h : LineOf m sorts ns es L) (hs : ∀ s ∈ sorts, s ∈ sorts3) (u v : Str) : Nice 1 39 (secD es u v) := by
  unfold secD
  cases e : es.find? (fun x => x.has u v) with
  | none => exact nice_non
  | some x => exact h.nS hs (List.mem_of_find?_eq_some e)
/-- .. and of one station .. -/
structure StG (L near text keys : D) (u : Str) (fd : Way) (G : Gam) : Prop extends LwG L near text keys G where
  g8 : gat G 8 = some (.str u)
  g9 : gat G 9 = some (.dic (wayK fd))
theorem StG.set' {near text keys : D} {u : Str} {fd : Way} {i : Nat} {o : Option D} (h : StG L near text keys u fd G) (hi : 9 < i) : StG L near text keys u fd (G.set i o) :=
  ⟨h.toLwG.set (by omega), by rw [gat_ne (by omega)]; exact h.g8, by rw [gat_ne (by omega)]; exact h.g9⟩
variable {near text keys : D} {R : D → Prop}
theorem does_pair {u v : Str} {fd : Way} (h : LineOf m sorts ns es L) (hm : m ≤ 24) (hs : ∀ s ∈ sorts, s ∈ sorts3) (hu : u ∈ ns) (hv : v ∈ ns) (ok : WaOk ns es u fd) (all : ∀ s, s ∈ keysW fd ↔ s ∈ ns) (g : StG L near text keys u fd G) (g10 : gat G 10 = some (.str v)) :
    Does pairB G (StG L near text keys u fd) R := by
  obtain ⟨⟨v', lv⟩, hp', ev⟩ := List.mem_map.mp ((all v).mpr hv)
  have hp : (v, lv) ∈ fd := by
    have e : v' = v := ev
    rw [← e]; exact hp'
  have po := ok.path hp
  have nT : Nice 1 312 (.tup (lv.map D.str)) := h.nT hm (fun w hw => po.inN w (List.mem_cons_of_mem _ hw)) (by
    have := po.len
    rw [List.length_cons, h.nms.len] at this
    omega)
  have nF : Nice 3 2000 (.lst [secD es u v, .tup (lv.map D.str), .tup (lv.map D.str)]) := (nice_lst (k := 1) (n := 312) (c := 3) (fun d hd => by
    simp only [List.mem_cons, List.not_mem_nil, or_false] at hd
    rcases hd with rfl | rfl | rfl
    · exact (h.nSec hs u v).mono (by decide) (by decide)
    · exact nT
    · exact nT) (by simp)).mono (by decide) (by decide)
  unfold pairB
  refine does_then (Pm := fun G => StG L near text keys u fd G ∧ gat G 10 = some (.str v) ∧ gat G 11 = some (.lst ((es.filter (·.has u v)).map Sec.d))) (does_set (says_due h hm g.len g.g4 hu hv g.g8 g10) fun d e => by subst e; exact ⟨g.set' (by decide), by rw [gat_ne (by decide)]; exact g10, gat_set (by rw [g.len]; decide)⟩) fun G ⟨g, g10, g11⟩ => ?_
  have sw : Says (dCall wayF (dCons (dVar 4) (dCons (dVar 8) (dCons (dVar 10) dNil)))) G (· = .tup (lv.map D.str)) := says_call3 (says_var g.g4) (says_var g.g8) (says_var g10) ((tells_way h hu hv (by omega)).mono fun r ⟨l, e, p⟩ => by
    rw [h.path_eq p po] at e
    exact e)
  have ss : Says (dCall sectionF (dCons (dVar 4) (dCons (dVar 8) (dCons (dVar 10) dNil)))) G (· = secD es u v) := says_call3 (says_var g.g4) (says_var g.g8) (says_var g10) (by rw [h.eq]; exact tells_section h.layE (h.layN u hu) (h.layN v hv))
  refine does_then (Pm := fun G => StG L near text keys u fd G ∧ gat G 10 = some (.str v) ∧ gat G 11 = some (.lst ((es.filter (·.has u v)).map Sec.d)) ∧ gat G 12 = some (.lst [secD es u v, .tup (lv.map D.str), .tup (lv.map D.str)])) (does_set (says_lst (saysL_3 ss sw sw) (by simp)) fun d e => by subst e; exact ⟨g.set' (by decide), by rw [gat_ne (by decide)]; exact g10, by rw [gat_ne (by decide)]; exact g11, gat_set (by rw [g.len]; decide)⟩) fun G ⟨g, g10, g11, g12⟩ => ?_
  have sv : Says (d2 fIdx (dVar 9) (dVar 10)) G (· = .tup (lv.map D.str)) := says_2 (says_var g.g9) (says_var g10) (fIdx_way ok.nd hp)
  refine does_then (Pm := fun G' => G' = G) (does_unless (says_call2 (says_var g12) (says_lst (saysL_3 (says_2 (says_2 (says_var g11) (says_lst (saysL_one says_c) (by simp)) (catL_ok (by
    have := List.length_filter_le (fun x : Sec => x.has u v) es
    rw [List.length_map, h.elen] at *
    simp only [List.length_nil, List.length_cons]
    omega))) says_c head_due) sv sv) (by simp)) (nice_alike nF (by decide) (by decide))) rfl) fun G' e => ?_
  subst e
  refine does_ifnot (saysT_and (P1 := fun _ => True) (P2 := (· = false)) (saysT_asB (says_d2 (P1 := (· = .str v)) (P2 := (· = .str u)) (says_var g10) (says_var g.g8) fun d e e1 e2 => by subst e1 e2; exact ⟨_, rfl, _, rfl, trivial⟩)) (fun _ => saysT_not (PT := (· = true)) (saysT_asB ((says_call2 (P := (· = .bl true)) (a := keyD u v) (b := keyD u v) (says_call2 (says_var g.g8) (says_var g10) tells_key) (says_call2 (says_var g.g8) (says_var g10) tells_key) (nice_alike (k := 1) (n := 26) ?_ (by decide) (by decide))).mono fun d e => ⟨true, e, rfl⟩)) fun c e => by rw [e]; rfl) (fun c _ e => e) fun _ => rfl) g
  unfold keyD
  split
  · exact h.nK hu hv
  · exact h.nK hv hu
/-- one station -/
theorem does_stat {u : Str} (h : LineOf m sorts ns es L) (hm : m ≤ 24) (hs : ∀ s ∈ sorts, s ∈ sorts3) (hu : u ∈ ns) (g : LwG L (.dic (nearK ns (nbL es))) text keys G) (g8 : gat G 8 = some (.str u)) :
    Does statB G (LwG L (.dic (nearK ns (nbL es))) text keys) R := by
  unfold statB
  refine does_then (Pm := fun G => ∃ fd, StG L (.dic (nearK ns (nbL es))) text keys u fd G ∧ WaOk ns es u fd ∧ ∀ s, s ∈ keysW fd ↔ s ∈ ns) (does_set (says_call2 (says_var g.g5) (says_var g8) (tells_ways h hu (by omega))) fun d ⟨fd, e, ok, all⟩ => by subst e; exact ⟨fd, ⟨g.set (by decide), by rw [gat_ne (by decide)]; exact g8, gat_set (by rw [g.len]; decide)⟩, ok, all⟩) fun G ⟨fd, g, ok, all⟩ => ?_
  obtain ⟨vs, e1, pv, e2⟩ := h.srt (by omega) u
  refine does_then (Pm := fun G' => G' = G) (does_unless (says_call2 (says_call2 (says_var g.g4) (says_var g.g8) (h.tNb (by omega) u)) (says_1 (says_1 (says_2 (says_var g.g5) (says_var g.g8) (fIdx_near hu)) e2) rfl) (nice_alike (k := 1) (n := 312) ?_ (by decide) (by decide))) rfl) fun G' e => ?_
  · rw [e1]
    exact h.nT hm (fun w hw => h.nbN (pv.mem_iff.mp hw)) (by rw [pv.length_eq]; exact Nat.le_trans (nb_len _ _) (by rw [h.elen]; omega))
  subst e
  refine does_each (PS := fun ds => ∀ d ∈ ds, ∃ w ∈ ns, d = D.str w) (J := StG L (.dic (nearK ns (nbL es))) text keys u fd) (saysL_itemsP (P := fun d => ∃ l : List Str, d = .lst (l.map D.str) ∧ ∀ w ∈ l, w ∈ ns) (says_d2 (P2 := (· = .lst [.str u])) (says_src8 h hm g.g1 g.g4) (says_lst (saysL_one (says_var g.g8)) (by simp)) fun d e ⟨l, e1, h1, h2⟩ e2 => ?_) fun d ⟨l, e, h1⟩ => ?_) g (fun ds hds d hd G g => ?_) fun G g => g.toLwG
  · subst e1 e2
    refine ⟨_, catL_ok (by rw [List.length_map]; simp only [List.length_nil, List.length_cons]; omega), l ++ [u], by rw [List.map_append]; rfl, fun w hw => ?_⟩
    rcases List.mem_append.mp hw with hw | hw
    · exact h1 w hw
    · rw [List.mem_singleton.mp hw]; exact hu
  · subst e
    refine ⟨_, rfl, fun d hd => ?_⟩
    obtain ⟨w, hw, rfl⟩ := List.mem_map.mp hd
    exact ⟨w, h1 w hw, rfl⟩
  · obtain ⟨w, hw, rfl⟩ := hds d hd
    exact ⟨_, rfl, does_pair h hm hs hu hw ok all (g.set' (by decide)) (gat_set (by rw [g.len]; decide))⟩
/-- one row -/
theorem does_row {x : Sec} (h : LineOf m sorts ns es L) (hm : m ≤ 24) (hs : ∀ s ∈ sorts, s ∈ sorts3) (hx : x ∈ es) (g : LwG L near text keys G) (g13 : gat G 13 = some (.str x.a)) (g10 : gat G 10 = some (.str x.b)) (g14 : gat G 14 = some (.str x.s)) :
    Does rowB G (LwG L near text keys) R := by
  have hf := h.fits x hx
  have hlt := (h.lt x hx).1
  unfold rowB
  refine does_then (Pm := fun G' => G' = G) (does_unless (says_call2 (a := .lst [.str x.s, .tup [.str x.a, .str x.b]]) (b := .lst [.str x.s, .tup [.str x.a, .str x.b]]) (says_lst (saysL_2 (says_call2 (says_var g.g4) (says_tup2 (says_var g13) (says_var g10)) (tells_sortOf ?_)) ((says_call2 (says_var g10) (says_var g13) tells_key).mono fun d e => by rw [e, keyD_ab hlt])) (by simp)) (says_lst (saysL_2 (says_var g14) (says_tup2 (says_var g13) (says_var g10))) (by simp)) (nice_alike (k := 2) (n := 100) ?_ (by decide) (by decide))) rfl) fun G' e => ?_
  · rw [h.eq]
    refine (tells_section h.layE (h.layN _ hf.1) (h.layN _ hf.2.1)).mono fun d e => ?_
    rw [e, h.sec_eq hx]
  · refine (nice_lst (k := 1) (n := 26) (c := 2) (fun d hd => ?_) (by simp)).mono (by decide) (by decide)
    simp only [List.mem_cons, List.not_mem_nil, or_false] at hd
    rcases hd with rfl | rfl
    · exact (sort_nice (k := 1) (hs _ (h.lt x hx).2)).mono (by decide) (by decide)
    · exact h.nK hf.1 hf.2.1
  subst e
  have a1 : Adj es x.a x.b := (adj_iff h.fits).mpr ⟨x, hx, .inl ⟨rfl, rfl⟩⟩
  have a2 : Adj es x.b x.a := adj_symm h.fits a1
  refine does_ifnot (saysT_or (P1 := (· = false)) (P2 := (· = false)) (saysT_asB ((says_2 (r := .bl false) (says_var g10) (says_call2 (says_var g.g4) (says_var g13) (h.tNb (by omega) x.a)) (h.nbIn (by omega) a1)).mono fun d e => ⟨false, e, rfl⟩)) (fun _ => saysT_asB ((says_2 (r := .bl false) (says_var g13) (says_call2 (says_var g.g4) (says_var g10) (h.tNb (by omega) x.b)) (h.nbIn (by omega) a2)).mono fun d e => ⟨false, e, rfl⟩)) (fun e => nomatch e) fun c _ e => e) g
/-- one LINE -/
theorem does_one (h : LineOf m sorts ns es L) (hm : m ≤ 24) (hs : ∀ s ∈ sorts, s ∈ sorts3) (hl : G.length = 16) (g1 : gat G 1 = some .non) (g4 : gat G 4 = some L) :
    Does oneB G (fun G => G.length = 16 ∧ gat G 1 = some .non) R := by
  have nL := h.nD hm hs
  have hr := nice_repr nL (by decide) (by decide)
  have sr : ∀ {G : Gam}, gat G 4 = some L → Says (d1 fRepr (dVar 4)) G (· = .str (PyData.shown (py L))) := fun g => says_1 (says_var g) hr
  have tn : Tells nearF [L] (· = .dic (nearK ns (nbL es))) := by rw [h.eq]; exact tells_near h.nms.nd h.fits (by rw [h.elen]; omega) (by rw [h.nms.len]; omega)
  unfold oneB
  refine does_then (Pm := fun G => G.length = 16 ∧ gat G 1 = some .non ∧ gat G 4 = some L ∧ gat G 5 = some (.dic (nearK ns (nbL es))) ∧ gat G 6 = some (.str (PyData.shown (py L)))) (does_sets (saysL_2 (says_call1 (says_var g4) tn) (sr g4)) fun ds e => ?_) fun G ⟨hl, g1, g4, g5, g6⟩ => ?_
  · subst e
    refine ⟨?_, ?_, ?_, ?_, ?_⟩
    · show ((G.set 5 _).set 6 _).length = 16
      rw [List.length_set, List.length_set]; exact hl
    · show gat ((G.set 5 _).set 6 _) 1 = _
      rw [gat_ne (by decide), gat_ne (by decide)]; exact g1
    · show gat ((G.set 5 _).set 6 _) 4 = _
      rw [gat_ne (by decide), gat_ne (by decide)]; exact g4
    · show gat ((G.set 5 _).set 6 _) 5 = _
      rw [gat_ne (by decide)]; exact gat_set (by rw [hl]; decide)
    · exact gat_set (by rw [List.length_set, hl]; decide)
  have tk : Tells keysF [L] (· = .tup (es.map Sec.key)) := by rw [h.eq]; exact tells_keys (by rw [h.elen]; omega)
  refine does_then (Pm := LwG L (.dic (nearK ns (nbL es))) (.str (PyData.shown (py L))) (.tup (es.map Sec.key))) (does_set (P := (· = .tup (es.map Sec.key))) (says_d1 (says_comp0 (PS := (· = es.map Sec.d)) (fun d e => e = keyOfD d) (saysL_items (h.says1 g4) rfl) (fun ds e => by subst e; rw [List.length_map, h.elen]; exact line1000 (by omega)) fun ds e d hd => ?_) fun d ⟨ds, es', e1, e2, p⟩ => ?_) fun d e => ?_) fun G g => ?_
  · subst e
    obtain ⟨x, _, rfl⟩ := List.mem_map.mp hd
    exact ⟨_, rfl, (says_cut2 (x := x) (gat_set (by show 15 < (G.set 15 none).length; rw [List.length_set, hl]; decide))).mono fun d e => e⟩
  · subst e1 e2
    refine ⟨_, rfl, ?_⟩
    rw [paired_fun p, List.map_map]; rfl
  · subst e
    exact ⟨by rw [List.length_set]; exact hl, by rw [gat_ne (by decide)]; exact g1, by rw [gat_ne (by decide)]; exact g4, by rw [gat_ne (by decide)]; exact g5, by rw [gat_ne (by decide)]; exact g6, gat_set (by rw [hl]; decide)⟩
  refine does_then (Pm := fun G' => G' = G) (does_unless (says_call2 (says_call1 (says_var g.g4) tk) (says_var g.g7) (nice_alike (k := 2) (n := 2000) ?_ (by decide) (by decide))) rfl) fun G' e => ?_
  · refine (nice_tup (k := 1) (n := 26) (c := 24) (fun d hd => ?_) (by rw [List.length_map, h.elen]; omega)).mono (by decide) (by decide)
    obtain ⟨x, hx, rfl⟩ := List.mem_map.mp hd
    exact h.nK (h.fits x hx).1 (h.fits x hx).2.1
  subst e
  refine does_then (Pm := LwG L (.dic (nearK ns (nbL es))) (.str (PyData.shown (py L))) (.tup (es.map Sec.key))) (does_each (PS := fun ds => ∀ d ∈ ds, ∃ w ∈ ns, d = D.str w) (J := LwG L (.dic (nearK ns (nbL es))) (.str (PyData.shown (py L))) (.tup (es.map Sec.key))) (saysL_itemsP (says_src8 h hm g.g1 g.g4) fun d ⟨l, e, h1, _⟩ => ?_) g (fun ds hds d hd G g => ?_) fun G g => g) fun G g => ?_
  · subst e
    refine ⟨_, rfl, fun d hd => ?_⟩
    obtain ⟨w, hw, rfl⟩ := List.mem_map.mp hd
    exact ⟨w, h1 w hw, rfl⟩
  · obtain ⟨w, hw, rfl⟩ := hds d hd
    exact ⟨_, rfl, does_stat h hm hs hw (g.set (by decide)) (gat_set (by rw [g.len]; decide))⟩
  refine does_then (Pm := LwG L (.dic (nearK ns (nbL es))) (.str (PyData.shown (py L))) (.tup (es.map Sec.key))) (does_each (PS := (· = es.map Sec.d)) (J := LwG L (.dic (nearK ns (nbL es))) (.str (PyData.shown (py L))) (.tup (es.map Sec.key))) (saysL_items (h.says1 g.g4) rfl) g (fun ds hds d hd G g => ?_) fun G g => g) fun G g => ?_
  · subst hds
    obtain ⟨x, hx, rfl⟩ := List.mem_map.mp hd
    have l1 : ∀ o : Option D, 13 < (G.set 13 o).length := fun o => by rw [List.length_set, g.len]; decide
    refine ⟨((G.set 13 (some (.str x.a))).set 10 (some (.str x.b))).set 14 (some (.str x.s)), rfl, does_row h hm hs hx (((g.set (by decide)).set (by decide)).set (by decide)) ?_ ?_ ?_⟩
    · rw [gat_ne (by decide), gat_ne (by decide)]; exact gat_set (by rw [g.len]; decide)
    · rw [gat_ne (by decide)]; exact gat_set (by rw [List.length_set, g.len]; decide)
    · exact gat_set (by rw [List.length_set, List.length_set, g.len]; decide)
  exact does_ifnot (saysT_asB (says_d2 (P1 := (· = .str (PyData.shown (py L)))) (P2 := (· = .str (PyData.shown (py L)))) (sr g.g4) (says_var g.g6) fun d e e1 e2 => by subst e1 e2; exact ⟨.bl false, by unfold fNe fEq; simp, false, rfl, rfl⟩)) ⟨g.len, g.g1⟩
end
/-- a LINE as a law draws it -/
def IsLine (d : D) : Prop := ∃ m sorts ns es, LineOf m sorts ns es d ∧ m ≤ 24 ∧ ∀ s ∈ sorts, s ∈ sorts3
theorem says_someline {G : Gam} {ms : List Nat} {fs : DA} (g1 : gat G 1 = some .non) (hf : Says (dOp semLst fs) G (· = .lst (ms.map fun m : Nat => D.int m))) (h0 : ms ≠ []) (hl : ms.length ≤ 100) (hm : ∀ m ∈ ms, 0 < m ∧ m ≤ 24) :
    Says (dCall lineF (dCons (dVar 1) (dCons (dCall someF (dCons (dVar 1) (dCons (dOp semLst fs) dNil))) (dCons (dCall sortsF (dCons (dVar 1) dNil)) dNil)))) G IsLine := by
  refine says_call (PL := fun ds => ∃ m ∈ ms, ∃ ss : List Str, ds = [.non, .int (m : Nat), .lst (ss.map D.str)] ∧ ss ≠ [] ∧ ss.length ≤ 4 ∧ ∀ s ∈ ss, s ∈ sorts3) (saysL_cons (P1 := (· = .non)) (PL := fun ds => ∃ m ∈ ms, ∃ ss : List Str, ds = [.int (m : Nat), .lst (ss.map D.str)] ∧ ss ≠ [] ∧ ss.length ≤ 4 ∧ ∀ s ∈ ss, s ∈ sorts3) (says_var g1) (saysL_cons (P1 := fun d => ∃ m ∈ ms, d = .int (m : Nat)) (PL := fun ds => ∃ ss : List Str, ds = [.lst (ss.map D.str)] ∧ ss ≠ [] ∧ ss.length ≤ 4 ∧ ∀ s ∈ ss, s ∈ sorts3) (says_call2 (says_var g1) hf ((tells_someL draws_take (by simpa using h0) (by rw [List.length_map]; omega)).mono fun d hd => ?_)) (saysL_cons (P1 := fun d => ∃ ss : List Str, d = .lst (ss.map D.str) ∧ ss ≠ [] ∧ ss.length ≤ 4 ∧ ∀ s ∈ ss, s ∈ sorts3) (says_call1 (says_var g1) (tells_mixed_sorts draws_take)) saysL_nil ?_) ?_) ?_) fun ds ⟨m, hmm, ss, e, h1, h2, h3⟩ => ?_
  · obtain ⟨m, hm, e⟩ := List.mem_map.mp hd
    exact ⟨m, hm, e.symm⟩
  · rintro d ds ⟨ss, e, h⟩ rfl
    exact ⟨ss, by rw [e], h⟩
  · rintro d ds ⟨m, hm, e⟩ ⟨ss, e2, h⟩
    exact ⟨m, hm, ss, by rw [e, e2], h⟩
  · rintro d ds e ⟨m, hm, ss, e2, h⟩
    exact ⟨m, hm, ss, by rw [e, e2], h⟩
  · subst e
    obtain ⟨p, q⟩ := hm m hmm
    exact (tells_line draws_take (tells_names draws_take p q) p q h1 (by omega) fun s hs => lay3 s (h3 s hs)).mono fun d ⟨ns, es, h⟩ => ⟨m, ss, ns, es, h, q, h3⟩
theorem saysL_int {fs : DA} {G : Gam} {i : Int} {is : List D} (h : SaysL fs G (· = is)) : SaysL (dCons (dC (.int i)) fs) G (· = .int i :: is) := saysL_cons says_c h fun _ _ ea eb => by rw [ea, eb]
theorem does_law04 : Does lawB04 (gamL 16) (fun _ => False) (· = .bl true) := by
  unfold lawB04
  have e0 : gamL 16 = [none, some .non, none, none, none, none, none, none, none, none, none, none, none, none, none, none] := rfl
  rw [e0]
  refine does_then (Pm := fun G => ∃ F, IsLine F ∧ G.length = 16 ∧ gat G 1 = some .non ∧ gat G 2 = some F) (does_set (says_someline (ms := [5, 3, 8, 2, 1, 24]) rfl (says_lst (saysL_int (saysL_int (saysL_int (saysL_int (saysL_int (saysL_int saysL_nil)))))) (by simp)) (by simp) (by simp) (by decide)) fun d h => ⟨d, h, rfl, rfl, rfl⟩) fun G ⟨F, hF, hl, g1, g2⟩ => ?_
  obtain ⟨m, sorts, ns, es, hL, hm, hs⟩ := id hF
  refine does_then (Pm := fun G => ∃ F1 F2, IsLine F1 ∧ IsLine F2 ∧ G.length = 16 ∧ gat G 1 = some .non ∧ gat G 2 = some F ∧ gat G 3 = some (.lst [F1, F2])) (does_set (P := fun d => ∃ F1 F2, d = .lst [F1, F2] ∧ IsLine F1 ∧ IsLine F2) (says_op (PL := fun ds => ∃ F1 F2, ds = [F1, F2] ∧ IsLine F1 ∧ IsLine F2) (saysL_cons (P1 := IsLine) (PL := fun ds => ∃ F2, ds = [F2] ∧ IsLine F2) (says_call2 (says_var g1) (says_var g2) ((tells_over draws_take hm hL).mono fun d ⟨es', h⟩ => ⟨m, sorts3, ns, es', h, hm, fun s hs => hs⟩)) (saysL_cons (says_someline (ms := [4, 6, 12]) g1 (says_lst (saysL_int (saysL_int (saysL_int saysL_nil))) (by simp)) (by simp) (by simp) (by decide)) saysL_nil fun d ds h e => ⟨d, by rw [e], h⟩) fun d ds h ⟨F2, e, h2⟩ => ⟨d, F2, by rw [e], h, h2⟩) fun ds ⟨F1, F2, e, h1, h2⟩ => ⟨_, semLst_ok (by rw [e]; simp), F1, F2, by rw [e], h1, h2⟩) fun d ⟨F1, F2, e, h1, h2⟩ => ⟨F1, F2, h1, h2, by rw [List.length_set]; exact hl, by rw [gat_ne (by decide)]; exact g1, by rw [gat_ne (by decide)]; exact g2, by rw [e]; exact gat_set (by rw [hl]; decide)⟩) fun G ⟨F1, F2, h1, h2, hl, g1, g2, g3⟩ => ?_
  refine does_then (Pm := fun _ => True) (does_each (PS := (· = [F, F1, F2, F])) (J := fun G => G.length = 16 ∧ gat G 1 = some .non) (saysL_items (d := .lst [F, F1, F2, F]) (says_2 (a := .lst [F, F1, F2]) (says_2 (says_lst (saysL_one (says_var g2)) (by simp)) (says_var g3) (catL_ok (by simp))) (says_lst (saysL_one (says_var g2)) (by simp)) (catL_ok (by simp))) rfl) ⟨hl, g1⟩ (fun ds e d hd G ⟨hl, g1⟩ => ?_) fun _ _ => trivial) fun G _ => does_ret says_c
  subst e
  have hd' : IsLine d := by
    simp only [List.mem_cons, List.not_mem_nil, or_false] at hd
    rcases hd with rfl | rfl | rfl | rfl
    · exact hF
    · exact h1
    · exact h2
    · exact hF
  obtain ⟨m', sorts', ns', es', hL', hm', hs'⟩ := hd'
  exact ⟨_, rfl, does_one hL' hm' hs' (by rw [List.length_set]; exact hl) (by rw [gat_ne (by decide)]; exact g1) (gat_set (by rw [hl]; decide))⟩
end Xa
/-! XE1: the bag as a dict: is a key there, a new entry; a frame in which a new dict is the bag. -/
namespace Xa
open PySem PySem.Spec
open PyProof.Rows L2
abbrev Kvs := List (List Key × List Key)
def hasT (kvs : Kvs) (k : List Key) : Bool := kvs.any fun p => decide (p.1 = k)
def dicT (kvs : Kvs) : D := .dic (kvs.map fun p => (kT p.1, kT p.2))
section
variable {K : PySem.W.Frag} {b l : Addr} {O O' : Addr → Prop} {H H' : Hp} {B : Bag} {g : Bg} {mu : List Md} {G : Gam} {σ : L2.St}
theorem ShowT.any {kvs : Kvs} {es : List (List Key × V)} (h : ShowT H kvs es) (k : List Key) : (es.any fun p => decide (p.1 = k)) = hasT kvs k := by
  induction h with
  | nil => rfl
  | cons _ _ ih => unfold hasT at ih ⊢; simp only [List.any_cons, ih]
theorem ShowT.snoc {kvs : Kvs} {es : List (List Key × V)} (h : ShowT H kvs es) {k x : List Key} {a : Addr} (ha : H a = some (.tup (x.map kV))) : ShowT H (kvs ++ [(k, x)]) (es ++ [(k, .ref a)]) := by
  induction h with
  | nil => exact .cons ha .nil
  | cons h1 _ ih => exact .cons h1 ih
theorem ShowT.len {kvs : Kvs} {es : List (List Key × V)} (h : ShowT H kvs es) : es.length = kvs.length := by
  induction h with
  | nil => rfl
  | cons _ _ ih => simp [ih]
/-- looking a key up in the bag -/
theorem bag_get (hb : BagAt b l H B) {kvs : Kvs} (hd : B.dd = some kvs) {y : V} {k : List Key} {A : List Addr} {m : Md} (hy : Ow K b O H m y (kT k) A) : ∃ o : Option V, DGetE H b y o ∧ o.isSome = hasT kvs k := by
  obtain ⟨a, rfl, ha⟩ := hy.tkey
  obtain ⟨o, e, x⟩ := hb.bx
  cases x with
  | law z => rw [hd] at z; cases z
  | dic0 z =>
    rw [hd] at z; cases z
    exact ⟨none, .inr (.inl ⟨e, rfl, a, k, rfl, ha⟩), rfl⟩
  | @dic kvs' es z t =>
    rw [hd] at z; cases z
    exact ⟨valV es k, .inl (.inr ⟨es, k, a, .inl e, rfl, ha, rfl⟩), by rw [← valV_any, t.any]⟩
/-- a new entry of the bag -/
theorem bag_put (hb : BagAt b l H B) (lb : l ≠ b) {kvs : Kvs} (hd : B.dd = some kvs) {y v : V} {k x : List Key} {A A' : List Addr} {m m' : Md} (hy : Ow K b O H m y (kT k) A) (hv : Ow K b O H m' v (kT x) A') (hn : hasT kvs k = false) (hz : kvs.length < sizeLine) :
    ∃ u, DPutE H b y v (L2.upd H b u) ∧ BagAt b l (L2.upd H b u) { B with dd := some (kvs ++ [(k, x)]) } := by
  obtain ⟨a, rfl, ha⟩ := hy.tkey
  obtain ⟨c, rfl, hc⟩ := hv.tkey
  obtain ⟨o, e, bx⟩ := hb.bx
  have kt : ∀ u : HO, ∀ d vs, H d = some (.tup vs) → L2.upd H b u d = some (.tup vs) := fun u d vs z => by
    rw [upd_ne (fun q => hb.noT (q ▸ z))]; exact z
  have fin : ∀ es : List (List Key × V), ShowT H (kvs ++ [(k, x)]) es → BagAt b l (L2.upd H b (.dT es)) { B with dd := some (kvs ++ [(k, x)]) } := fun es t =>
    ⟨⟨.dT es, upd_same, .dic rfl (t.keep (kt _))⟩, by rw [upd_ne lb]; exact hb.cells⟩
  cases bx with
  | law z => rw [hd] at z; cases z
  | dic0 z =>
    rw [hd] at z; cases z
    exact ⟨.dT [(k, .ref c)], .inr (.inl ⟨e, a, k, rfl, ha, rfl⟩), fin _ (.cons hc .nil)⟩
  | @dic kvs' es z t =>
    rw [hd] at z; cases z
    have h1 : valV es k = none := by
      have h2 := valV_any k es
      rw [t.any, hn] at h2
      cases h3 : valV es k with
      | none => rfl
      | some w => rw [h3] at h2; cases h2
    refine ⟨.dT (es ++ [(k, .ref c)]), .inl (.inr ⟨es, k, a, e, rfl, ha, by rw [t.len]; exact hz, ?_⟩), fin _ (t.snoc hc)⟩
    rw [putK_new _ h1]
end
section
variable {X : Cx} {mu : List Md} {rm : Rm} {i : Nat} {x : Str} {a ke e : Expr} {f1 fk fv : DE} {pos p2 ps : Pos}
/-- key in bag, key not in bag -/
def dBagIn (neg : Bool) (i : Nat) (fk : DE) : DE := fun G B => (fk G B).bind fun p => (gat G i).bind fun _ => match tOf p.1, p.2.dd with
  | some k, some kvs => some (.bl (if neg then !hasT kvs k else hasT kvs k), p.2)
  | _, _ => none
theorem bagIn_imp {neg : Bool} (hm : mu[i]? = some .bag) (σ : L2.St) (H : Hp) (Q : VK) (h : tE X.K mu fz (dBagIn neg i fk) σ H Q) : tOp (rInDic neg) (tE X.K mu fz fk) (tVar i) σ H Q := by
  obtain ⟨g, O, G, B, d, B', F, hb, e, q⟩ := h
  unfold dBagIn at e
  cases e1 : fk G B with
  | none => rw [e1] at e; cases e
  | some p1 =>
    obtain ⟨dk, B1⟩ := p1
    rw [e1, Option.bind_some] at e
    cases e2 : gat G i with
    | none => rw [e2] at e; cases e
    | some d0 =>
      rw [e2, Option.bind_some] at e
      simp only at e
      cases e3 : tOf dk with
      | none => rw [e3] at e; cases e
      | some k =>
        cases e4 : B1.dd with
        | none => rw [e3, e4] at e; cases e
        | some kvs =>
          rw [e3, e4] at e
          cases e
          refine ⟨g, O, G, B, dk, _, F, hb, e1, fun y H1 A G1 => ⟨.ref g.b, F.bagSlot e2 hm, ?_⟩⟩
          obtain rfl := tOf_inv e3
          obtain ⟨o, h1, h2⟩ := bag_get (K := X.K) G1.bag e4 G1.rw_
          exact ⟨g.b, o, rfl, h1, q _ H1 [] ⟨G1.ext, (fun a z => nomatch z), List.nodup_nil, G1.bag, by rw [h2]; exact Rw.bl⟩⟩
theorem ev_bagNotIn (hu : X.A.units + 65 < cLine) (hk : EV X mu a fz fk) (hx : PE X (.Name x p2) (tVar i)) (hm : mu[i]? = some .bag) (hn : behindInMarks .NotIn (.Name x p2) = false := by rfl) : EV X mu (.Compare a [.NotIn] [.Name x p2] pos) fz (dBagIn true i fk) := pe_imp (pe_cmpR (op_notInDic (by omega)) hk hx hn) (bagIn_imp hm)
theorem et_bagNotIn (hu : X.A.units + 65 < cLine) (hk : EV X mu a fz fk) (hx : PE X (.Name x p2) (tVar i)) (hm : mu[i]? = some .bag) (hn : behindInMarks .NotIn (.Name x p2) = false := by rfl) : ET X mu (.Compare a [.NotIn] [.Name x p2] pos) (asB (dBagIn true i fk)) := pt_imp (pt_cmpR (op_notInDic (by omega)) hk hx hn) fun σ H Q q => bagIn_imp hm σ H _ (tE_bl q)
/-- bag[key] = value, a new key -/
def sBagNew (i : Nat) (fk fv : DE) : DS := fun G B => (fv G B).bind fun p => (fk G p.2).bind fun q => (gat G i).bind fun _ => match tOf p.1, tOf q.1, q.2.dd with
  | some v, some k, some kvs => if hasT kvs k = false ∧ kvs.length < sizeLine then some (.nx G { q.2 with dd := some (kvs ++ [(k, v)]) }) else none
  | _, _, _ => none
theorem es_bagNew (hu : X.A.units + 1 < cLine) (hx : PE X (.Name x p2) (tVar i)) (hm : mu[i]? = some .bag) (hk : EV X mu ke fz fk) (he : EV X mu e fz fv) (hs : swapsWith e (some (.Subscript (.Name x p2) ke ps)) pos.line X.env = pure false := by rfl) :
    ES X mu rm (.Assign [.Subscript (.Name x p2) ke ps] e pos) (sBagNew i fk fv) := ps_imp (ps_dputE hu hx hk he hs) fun D1 σ H ⟨g, O, G, B, oc, F, hb, e0, q⟩ => by
  unfold sBagNew at e0
  cases e1 : fv G B with
  | none => rw [e1] at e0; cases e0
  | some p1 =>
    obtain ⟨dv, B1⟩ := p1
    rw [e1, Option.bind_some] at e0
    cases e2 : fk G B1 with
    | none => rw [e2] at e0; cases e0
    | some p2 =>
      obtain ⟨dk, B2⟩ := p2
      rw [e2, Option.bind_some] at e0
      cases e3 : gat G i with
      | none => rw [e3] at e0; cases e0
      | some d0 =>
        rw [e3, Option.bind_some] at e0
        simp only at e0
        cases e4 : tOf dv with
        | none => rw [e4] at e0; cases e0
        | some v =>
          cases e5 : tOf dk with
          | none => rw [e4, e5] at e0; cases e0
          | some k =>
            cases e6 : B2.dd with
            | none => rw [e4, e5, e6] at e0; cases e0
            | some kvs =>
              rw [e4, e5, e6] at e0
              simp only at e0
              split at e0 <;> cases e0
              rename_i hz
              obtain rfl := tOf_inv e4
              obtain rfl := tOf_inv e5
              refine ⟨g, O, G, B, _, B1, F, hb, e1, fun y H1 A1 G1 => ?_⟩
              have F1 := F.step hb G1.ext G1.fresh (fun a z => (G1.rw_.dom a z).2) G1.bag.ne
              refine ⟨.ref g.b, F.bagSlot e3 hm, g, _, G, B1, _, B2, F1, G1.bag, e2, fun w H2 A2 G2 => ?_⟩
              have F2 := F1.step G1.bag G2.ext G2.fresh (fun a z => (G2.rw_.dom a z).2) G2.bag.ne
              have hoff : Off (orA O A1) g.b H1 H2 := G1.bag.off F1.ob G2.ext
              have h1 : Ow X.K g.b (orA O A1) H1 .frz y (kT v) A1 := G1.rw_
              have hz1 := Ow.noA.1 h1 (.inr (.inl rfl))
              subst hz1
              have h2 : Ow X.K g.b (orA (orA O []) A2) H2 .frz w (kT k) A2 := G2.rw_
              have hv2 : Ow X.K g.b (orA (orA O []) A2) H2 .frz y (kT v) [] := (Ow.off hoff fun a n => ⟨fun z => z.elim id fun z => absurd (G2.fresh a z) n, .inl⟩).1 h1 fun z => nomatch z
              obtain ⟨u, c1, c2⟩ := bag_put G2.bag F.ok.lb e6 h2 hv2 hz.1 hz.2
              have x3 : Ext g.b H2 (L2.upd H2 g.b u) := ext_b
              refine ⟨g.b, _, rfl, c1, q σ _ _ (F2.step0 G2.bag x3 c2) c2 ?_⟩
              exact (Ext.subO F hb G1.bag G1.ext G1.fresh).trans ((Ext.subO F1 G1.bag G2.bag G2.ext G2.fresh).trans (Ext.sub F2 G2.bag c2 x3))
end
end Xa
/-! XE2: statements in which a new dict is the bag. -/
namespace Xa
open PySem PySem.Spec
open PyProof.Rows L2
section
variable {K : PySem.W.Frag} {b b' l : Addr} {O O' : Addr → Prop} {H H' : Hp} {B : Bag} {g g' : Bg} {mu : List Md} {G : Gam} {σ : L2.St}
/-- another bag -/
theorem Ow.chb : (∀ {m v d A}, Ow K b O H m v d A → m ≠ .bag → Ow K b' O H m v d A) ∧ (∀ {m vs ds A}, OwL K b O H m vs ds A → m ≠ .bag → OwL K b' O H m vs ds A) := by
  refine Ow.rec2 (P := fun m v d A => m ≠ .bag → Ow K b' O H m v d A) (PL := fun m vs ds A => m ≠ .bag → OwL K b' O H m vs ds A) ?_ ?_ ?_ ?_ ?_ ?_ ?_ ?_ ?_ ?_ ?_ ?_ ?_ ?_
  · exact fun n => absurd rfl n
  · exact fun h _ => .non h
  · exact fun h _ => .bl h
  · exact fun h _ => .int h
  · exact fun h _ => .str h
  · exact fun h q _ ih _ => .tup h q (ih h)
  · exact fun h r _ ih _ => .lstF h r (ih (by decide))
  · exact fun h q r _ ih _ => .lstO h q r (ih h)
  · exact fun h r e _ ih _ => .dkF h r e (ih (by decide))
  · exact fun h q r _ ih _ => .dkO h q r (ih h)
  · exact fun h r e _ ih _ => .dtF h r e (ih (by decide))
  · exact fun h q r _ ih _ => .dtO h q r (ih h)
  · exact fun _ => .nil
  · exact fun _ _ i1 i2 n => .cons (i1 n) (i2 n)
theorem owl_keys {m : Md} (hm : m ≠ .bag) : ∀ ks : List Key, OwL K b O H m (ks.map kV) (ks.map kD) []
  | [] => .nil
  | .inl i :: r => OwL.consN (.int hm) (owl_keys hm r)
  | .inr x :: r => OwL.consN (.str hm) (owl_keys hm r)
theorem ow_kT {m : Md} (hm : m ≠ .bag) {a : Addr} {ks : List Key} (h : H a = some (.tup (ks.map kV))) : Ow K b O H m (.ref a) (kT ks) [] := .tup hm h (owl_keys hm ks)
theorem ShowT.ow {kvs : Kvs} {es : List (List Key × V)} (h : ShowT H kvs es) : OwL K b O H .frz (es.map (·.2)) (kvs.map fun p => kT p.2) [] ∧ (es.map fun p => kT p.1).zip (kvs.map fun p => kT p.2) = kvs.map fun p => (kT p.1, kT p.2) := by
  induction h with
  | nil => exact ⟨.nil, rfl⟩
  | cons h1 _ ih => exact ⟨OwL.consN (ow_kT (by decide) h1) ih.1, by rw [List.map_cons, List.map_cons, List.zip_cons_cons, ih.2]; rfl⟩
/-- the dict, when it is the bag no more -/
theorem bag_frz (hb : BagAt b l H B) {kvs : Kvs} (hd : B.dd = some kvs) (n : ¬ O b) : Ow K b' O H .frz (.ref b) (dicT kvs) [] := by
  obtain ⟨o, e, x⟩ := hb.bx
  cases x with
  | law z => rw [hd] at z; cases z
  | dic0 z =>
    rw [hd] at z; cases z
    exact .dkF (es := []) (ds := []) n (.inl e) (fun _ => e) .nil
  | @dic kvs' es z t =>
    rw [hd] at z; cases z
    obtain ⟨t1, t2⟩ := t.ow (K := K) (b := b') (O := O)
    unfold dicT
    rw [← t2]
    exact .dtF n (.inl e) (fun z => z ▸ e) t1
/-- the law's frame, behind the frame in which a new dict is the bag -/
structure Two (g : Bg) (O : Addr → Prop) (He : Hp) (B : Bag) (g' : Bg) : Prop where
  gok : g.Ok
  gsub : ∀ a, g.O0 a → O a
  gdom : ∀ a, O a → He a ≠ none
  gext : ∀ a o, a ≠ g.b → g.H0 a = some o → He a = some o
  gbag : BagAt g.b g.l He B
  grow : Grow He g'.H0
  sub' : ∀ a, O a → g'.O0 a
  fresh : He g'.b = none
def frzAll (mu : List Md) : Bool := mu.all fun m => decide (m = .frz)
theorem frzAll_get (h : frzAll mu = true) {j : Nat} {m : Md} (e : mu[j]? = some m) : m = .frz := by
  have := List.all_eq_true.mp h m (List.mem_of_getElem? e)
  exact of_decide_eq_true this
theorem Two.keep {He : Hp} (t : Two g O He B g') (F : Fr K g' O' mu G σ H) : ∀ a o, He a = some o → H a = some o := fun a o e =>
  F.ext0 a o (fun z => by rw [z, t.fresh] at e; cases e) (t.grow a o e)
theorem Two.out {He : Hp} {Bd : Bag} {i : Nat} {d0 : D} {kvs : Kvs} (t : Two g O He B g') (hm : frzAll mu = true) (F : Fr K g' O' (mu.set i .bag) G σ H) (hb : BagAt g'.b g'.l H Bd) (hi : mu[i]? = some .frz) (h0 : gat G i = some d0) (hd : Bd.dd = some kvs) : Fr K g O mu (G.set i (some (dicT kvs))) σ H := by
  have kp := t.keep F
  have nn : ∀ a, He a ≠ none → H a ≠ none := fun a n => by
    cases e : He a with
    | none => exact absurd e n
    | some o => rw [kp a o e]; simp
  have il : i < mu.length := (List.getElem?_eq_some_iff.mp hi).1
  have gi : i < G.length := (List.getElem?_eq_some_iff.mp (gat_some h0)).1
  refine ⟨t.gok, t.gsub, fun a z => nn a (t.gdom a z), fun a o n e => kp a o (t.gext a o n e), by rw [List.length_set]; exact F.len, fun _ => [], fun _ => List.nodup_nil, (fun _ _ _ a z => nomatch z), (fun _ a z => nomatch z), fun j d e => ?_⟩
  by_cases ji : j = i
  · subst ji
    rw [List.getElem?_set_self gi] at e
    cases e
    exact ⟨.frz, .ref g'.b, hi, F.bagSlot h0 (by rw [List.getElem?_set_self il]), bag_frz hb hd fun z => t.gdom _ z t.fresh⟩
  · rw [List.getElem?_set_ne (Ne.symm ji)] at e
    obtain ⟨As, _, _, _, sl⟩ := F.slots
    obtain ⟨m, v, h1, h2, h3⟩ := sl j d e
    rw [List.getElem?_set_ne (Ne.symm ji)] at h1
    obtain rfl := frzAll_get hm h1
    have z := Ow.noA.1 h3 (.inr (.inl rfl))
    rw [z] at h3
    exact ⟨.frz, v, h1, h2, (Ow.chb.1 ((Ow.shrink fun a q => F.sub a (t.sub' a q)).1 h3 fun a q => nomatch q) (by decide))⟩
end
def tSw (K : PySem.W.Frag) (mu : List Md) (i : Nat) (rm : Rm) (f : Gam → Bag → Bag → Option Oc) : TS := fun D σ H => ∃ (g : Bg) (O : Addr → Prop) (He : Hp) (G : Gam) (B : Bag) (g' : Bg) (O' : Addr → Prop) (Bd : Bag) (oc : Oc), Two g O He B g' ∧ Fr K g' O' (mu.set i .bag) G σ H ∧ BagAt g'.b g'.l H Bd ∧ f G B Bd = some oc ∧ Fin K mu rm g O He D oc
def EWs (X : Cx) (mu : List Md) (i : Nat) (rm : Rm) (s : List Stmt) (f : Gam → Bag → Bag → Option Oc) : Prop := PSs X s (tSw X.K mu i rm f)
section
variable {X : Cx} {mu : List Md} {rm rm' : Rm} {i : Nat} {st : Stmt} {rest : List Stmt} {s1 f : DS} {f2 : Gam → Bag → Bag → Option Oc}
def swThen (s1 : DS) (f2 : Gam → Bag → Bag → Option Oc) : Gam → Bag → Bag → Option Oc := fun G B Bd => (s1 G Bd).bind fun oc => match oc with
  | .nx G' Bd' => f2 G' B Bd'
  | _ => none
theorem esw_cons (h1 : ES X (mu.set i .bag) rm' st s1) (h2 : EWs X mu i rm rest f2) : EWs X mu i rm (st :: rest) (swThen s1 f2) := pss_imp (pss_cons h1 h2) fun D σ H ⟨g, O, He, G, B, g', O', Bd, oc, t, F, hb, e, q⟩ => by
  unfold swThen at e
  cases e1 : s1 G Bd with
  | none => rw [e1] at e; cases e
  | some o =>
    rw [e1, Option.bind_some] at e
    refine ⟨g', O', G, Bd, o, F, hb, e1, ?_⟩
    cases o with
    | nx G' Bd' => exact fun σ' H' O'' F' b' x => ⟨g, O, He, G', B, g', O'', Bd', oc, t, F', b', e, q⟩
    | bk G' B' => cases e
    | ct G' B' => cases e
    | rt d B' => cases e
def swLeave (i : Nat) (f : DS) : Gam → Bag → Bag → Option Oc := fun G B Bd => match gat G i, Bd.dd with
  | some _, some kvs => f (G.set i (some (dicT kvs))) B
  | _, _ => none
theorem esw_leave (hm : frzAll mu = true) (hi : mu[i]? = some .frz) (h : ESs X mu rm rest f) : EWs X mu i rm rest (swLeave i f) := pss_imp h fun D σ H ⟨g, O, He, G, B, g', O', Bd, oc, t, F, hb, e, q⟩ => by
  unfold swLeave at e
  cases e1 : gat G i with
  | none => rw [e1] at e; cases e
  | some d0 =>
    cases e2 : Bd.dd with
    | none => rw [e1, e2] at e; cases e
    | some kvs =>
      rw [e1, e2] at e
      have kp := t.keep F
      have su : Sub O O He H := ⟨fun a o _ z => kp a o z, fun a vs z => kp a _ z, fun a z => z, fun a z => .inl z, fun a n => by
        cases e3 : He a with
        | none => exact absurd e3 n
        | some o => rw [kp a o e3]; simp⟩
      exact ⟨g, O, _, B, oc, t.out hm F hb hi e1 e2, t.gbag.grow kp, e, q.weak su⟩
def sEnter (i : Nat) (f2 : Gam → Bag → Bag → Option Oc) : DS := fun G B => f2 (G.set i (some .non)) B ⟨0, 0, 0, B.cells, some []⟩
theorem ess_enter {x : Str} {pos pos' dpos : Pos} (hN : X.N.Nodup) (hi : X.N[i]? = some x) (hx : Loc X.env.scope x) (hm : frzAll mu = true) (hmi : mu[i]? = some .frz) (h : EWs X mu i rm rest f2) (hs : swapsWith (.Dict [] [] dpos) (some (.Name x pos')) pos.line X.env = pure false := by rfl) (hf : X.fn x = true ∨ X.env.scope.names.lookup x = some .local := by first | exact .inl rfl | exact .inr rfl | assumption) :
    ESs X mu rm (.Assign [.Name x pos'] (.Dict [] [] dpos) pos :: rest) (sEnter i f2) := pss_imp (pss_cons (ps_set hN hi hx pe_dnewK hs hf) h) fun D σ H ⟨g, O, G, B, oc, F, hb, e, q⟩ => by
  intro p hp
  have npl : g.l ≠ p := fun z => by rw [← z, hb.cells] at hp; cases hp
  have il : i < mu.length := (List.getElem?_eq_some_iff.mp hmi).1
  have kp : Grow H (L2.upd H p (.dK [])) := grow_upd hp
  have dm : ∀ a, (O a ∨ a = p) → L2.upd H p (.dK []) a ≠ none := fun a z => by
    by_cases ap : a = p
    · rw [ap, upd_same]; simp
    · rw [upd_ne ap]; exact F.dom a (z.resolve_right ap)
  refine ⟨g, O, H, _, B, ⟨p, g.l, L2.upd H p (.dK []), fun a => O a ∨ a = p⟩, fun a => O a ∨ a = p, _, oc, ⟨F.ok, F.sub, F.dom, F.ext0, hb, kp, fun a z => .inl z, hp⟩, ⟨⟨.inr rfl, .inl F.ol, npl, dm⟩, fun a z => z, dm, fun a o _ z => z, by rw [List.length_set, List.length_set]; exact F.len, fun _ => [], fun _ => List.nodup_nil, (fun _ _ _ a z => nomatch z), (fun _ a z => nomatch z), fun j d ej => ?_⟩, ⟨⟨.dK [], upd_same, .dic0 rfl⟩, by
    show L2.upd H p (.dK []) g.l = _
    rw [upd_ne npl]; exact hb.cells⟩, e, q⟩
  by_cases ji : j = i
  · subst ji
    have gl : j < G.length := by
      have := (List.getElem?_eq_some_iff.mp ej).1
      simpa using this
    rw [List.getElem?_set_self gl] at ej
    cases ej
    exact ⟨.bag, .ref p, by rw [List.getElem?_set_self il], by rw [List.getElem?_set_self (by rw [← F.len]; exact gl)], .bag⟩
  · rw [List.getElem?_set_ne (Ne.symm ji)] at ej
    obtain ⟨As, _, _, _, sl⟩ := F.slots
    obtain ⟨m, v, h1, h2, h3⟩ := sl j d ej
    obtain rfl := frzAll_get hm h1
    have z := Ow.noA.1 h3 (.inr (.inl rfl))
    rw [z] at h3
    obtain ⟨vb, hvb⟩ := hb.box
    have h4 : Ow X.K g.b (fun a => O a ∨ a = p) (L2.upd H p (.dK [])) .frz v d [] := h3.grow F.ob hvb kp (fun q => nomatch q) fun a n => ⟨fun q => q.resolve_right fun z => n (z ▸ hp), .inl⟩
    exact ⟨.frz, v, by rw [List.getElem?_set_ne (Ne.symm ji)]; exact h1, by rw [List.getElem?_set_ne (Ne.symm ji)]; exact h2, Ow.chb.1 h4 (by decide)⟩
end
end Xa
/-! XE3: d.get(k, x); x += k; another mode of a slot. -/
namespace Xa
open PySem PySem.Spec
open PyProof.Rows L2
section
variable {X : Cx} {pins : List (Addr × Obj)} {σ : L2.St} {s : Shared} {H : Hp}
/-- d.get(y, z), an empty dict being of either kind -/
theorem DGetE.get2 {a : Addr} {y d : V} {o : Option V} {u r : Value} {A : Around} {E Q : Value → Shared → Prop} (hu : A.units + 1 < cLine) (I : Inv X pins σ H s) (g : DGetE H a y o) (ry : RelV y u) (rd : RelV d r) (h : ∀ w' s', Inv X pins σ H s' → RelV (o.getD d) w' → Q w' s') : wpAny (model X.prog X.w) A (call (.builtin "dict.get") [.ref a, u, r]) Q E s := by
  rcases g with g | ⟨e, rfl, p, k, rfl, e2⟩ | ⟨e, rfl, k, rfl⟩
  · exact d_get2 hu I g ry rd h
  · refine d_get2 (H := upd H a (.dT [])) (o := none) hu (empty_kt I e) (.inr ⟨[], k, p, .inl upd_same, rfl, ?_, rfl⟩) ry rd fun w' s' J => h w' s' ?_
    · rw [upd_ne (fun z => by rw [z, e] at e2; cases e2)]; exact e2
    · have J2 := empty_tk J upd_same
      rwa [upd_back e] at J2
  · refine d_get2 (H := upd H a (.dK [])) (o := none) hu (empty_tk I e) (.inl ⟨[], k, .inl upd_same, rfl, rfl⟩) ry rd fun w' s' J => h w' s' ?_
    have J2 := empty_kt J upd_same
    rwa [upd_back e] at J2
def tGetE (td ty tx : TE) : TE := fun σ H Q => td σ H fun x H1 => ∃ a, x = .ref a ∧ IsD H1 a ∧ ty σ H1 fun y H2 => tx σ H2 fun z H3 => ∃ o, DGetE H3 a y o ∧ Q (o.getD z) H3
theorem pe_getE {o e f : Expr} {td ty tx : TE} {apos cpos : Pos} (hu : X.A.units + 1 < cLine) (m : M2 X o "get" apos e f cpos) (ho : PE X o td) (he : PE X e ty) (hf : PE X f tx) : PE X (.Call (.Attribute o "get" apos) [e, f] [] cpos) (tGetE td ty tx) := ⟨fun pins s σ H Q I h =>
  wpAny_Call_method m.base m.few m.line PySem.F.plainAttrs_dict PySem.F.slot_dict_get PySem.F.type_dict_get (thn (ho.run pins s σ H _ I h) fun u t ⟨x, H1, I1, rx, a, ex, d, q1⟩ => by
    cases ex; cases rx
    have ⟨t1, t2, _⟩ := isD_at I1 d
    refine ⟨t1, t2, ?_⟩; rw [m.trees]
    exact Calls.callWith_builtin rfl (Calls.evalArgs_plain (Calls.spliced_cons (thn (he.run pins t σ H1 _ I1 q1) fun iv t2 ⟨y, H2, I2, ry, q2⟩ => Calls.spliced_cons (thn (hf.run pins t2 σ H2 _ I2 q2) fun fv t3 ⟨z, H3, I3, rz, ov, g, q3⟩ => Calls.spliced_nil (g.get2 hu I3 ry rz fun w' t4 I4 rw' => ⟨_, H3, I4, rw', q3⟩))))))⟩
end
section
variable {K : PySem.W.Frag} {b : Addr} {O : Addr → Prop} {H : Hp}
theorem Vw.isD {x : V} {kvs : List (D × D)} (h : Vw K b O H x (.dic kvs)) : ∃ a, x = .ref a ∧ IsD H a := by
  obtain ⟨a, e, ⟨es, r, _⟩ | ⟨es, r, _⟩⟩ := h.dicLen
  · exact ⟨a, e, .inl ⟨es, r⟩⟩
  · exact ⟨a, e, .inr ⟨es, r⟩⟩
end
section
variable {X : Cx} {mu : List Md} {rm : Rm} {o e f a : Expr} {fd fk fx f1 : DE} {pos apos cpos p2 : Pos}
def dGet (fd fk fx : DE) : DE := fun G B => (fd G B).bind fun p => match p.1 with
  | .dic kvs => (fk G p.2).bind fun q => (fx G q.2).bind fun r => if okK kvs q.1 = true then some ((dicFind kvs q.1).getD r.1, r.2) else none
  | _ => none
theorem ev_get (hu : X.A.units + 1 < cLine) (m : M2 X o "get" apos e f cpos) (hd : EV X mu o .vw fd) (hk : EV X mu e fz fk) (hx : EV X mu f fz fx) : EV X mu (.Call (.Attribute o "get" apos) [e, f] [] cpos) fz (dGet fd fk fx) := pe_imp (pe_getE hu m hd hk hx) fun σ H Q ⟨g, O, G, B, d, B', F, hb, e0, q⟩ => by
  unfold dGet at e0
  cases e1 : fd G B with
  | none => rw [e1] at e0; cases e0
  | some p1 =>
    obtain ⟨dd, B1⟩ := p1
    rw [e1, Option.bind_some] at e0
    cases dd with
    | dic kvs =>
      simp only at e0
      cases e2 : fk G B1 with
      | none => rw [e2] at e0; cases e0
      | some p2 =>
        obtain ⟨dk, B2⟩ := p2
        rw [e2, Option.bind_some] at e0
        cases e3 : fx G B2 with
        | none => simp only [e3] at e0; cases e0
        | some p3 =>
          obtain ⟨dx, B3⟩ := p3
          simp only [e3, Option.bind_some] at e0
          split at e0 <;> cases e0
          rename_i ok
          refine ⟨g, O, G, B, _, B1, F, hb, e1, fun x H1 A1 G1 => ?_⟩
          have F1 := F.step hb G1.ext G1.fresh (fun a z => (G1.rw_.dom a z).2) G1.bag.ne
          have r1 : A1 = [] ∧ Vw X.K g.b (orA O A1) H1 x (.dic kvs) := G1.rw_
          obtain ⟨rfl, v1⟩ := r1
          obtain ⟨a, rfl, isd⟩ := v1.isD
          refine ⟨a, rfl, isd, g, _, G, B1, dk, B2, F1, G1.bag, e2, fun y H2 A2 G2 => ?_⟩
          have F2 := F1.step G1.bag G2.ext G2.fresh (fun a z => (G2.rw_.dom a z).2) G2.bag.ne
          refine ⟨g, _, G, B2, dx, _, F2, G2.bag, e3, fun z H3 A3 G3 => ?_⟩
          have r2 : Ow X.K g.b (orA (orA O []) A2) H2 .frz y dk A2 := G2.rw_
          have z2 := Ow.noA.1 r2 (.inr (.inl rfl)); subst z2
          have r3 : Ow X.K g.b (orA (orA (orA O []) []) A3) H3 .frz z dx A3 := G3.rw_
          have z3 := Ow.noA.1 r3 (.inr (.inl rfl)); subst z3
          have off12 : Off (orA O []) g.b H1 H2 := G1.bag.off F1.ob G2.ext
          have off23 : Off (orA (orA O []) []) g.b H2 H3 := G2.bag.off F2.ob G3.ext
          have eq1 : ∀ a, H1 a ≠ none → (orA (orA O []) [] a ↔ orA O [] a) := fun a _ => ⟨fun z => z.elim id fun z => (nomatch z), .inl⟩
          have eq2 : ∀ a, H2 a ≠ none → (orA (orA (orA O []) []) [] a ↔ orA (orA O []) [] a) := fun a _ => ⟨fun z => z.elim id fun z => (nomatch z), .inl⟩
          have v2 : Rw X.K g.b (orA (orA O []) []) H2 .vw (.ref a) (.dic kvs) [] := Rw.off off12 eq1 (show Rw X.K g.b (orA O []) H1 .vw (.ref a) (.dic kvs) [] from ⟨rfl, v1⟩) fun z => nomatch z
          have v3 : Rw X.K g.b (orA (orA (orA O []) []) []) H3 .vw (.ref a) (.dic kvs) [] := Rw.off off23 eq2 v2 fun z => nomatch z
          have k3 : Ow X.K g.b (orA (orA (orA O []) []) []) H3 .frz y dk [] := (Ow.off off23 eq2).1 r2 fun z => nomatch z
          have fin : ∀ {w : V} {d' : D}, Ow X.K g.b (orA (orA (orA O []) []) []) H3 .frz w d' [] → Got X.K g.b g.l O H H3 B' fz w d' [] := fun {w d'} h =>
            ⟨fun a o n z => G3.ext a o n (G2.ext a o n (G1.ext a o n z)), (fun a z => nomatch z), List.nodup_nil, G3.bag, by rw [orN, orN] at h; exact h⟩
          obtain ⟨a', ea, ⟨n1, n2⟩ | ⟨d', w, n1, n2, n3⟩⟩ := dic_get v3.2 k3 ok
          · cases ea
            exact ⟨none, n2, q _ _ [] (by rw [n1]; exact fin r3)⟩
          · cases ea
            exact ⟨some w, n2, q _ _ [] (by rw [n1]; exact fin n3)⟩
    | _ => cases e0
/-- x += e, of whole numbers -/
def sAug (i : Nat) (f : DE) : DS := fun G B => (f G B).bind fun p => match gat G i, p.1 with
  | some (.int a), .int b => some (.nx (G.set i (some (.int (a + b)))) p.2)
  | _, _ => none
theorem es_aug {i : Nat} {x : Str} {pos' : Pos} (hN : X.N.Nodup) (hi : X.N[i]? = some x) (hx : Loc X.env.scope x) (he : EV X mu e fz f1) (hm : mu[i]? = some .frz := by rfl) (hf : X.fn x = true ∨ X.env.scope.names.lookup x = some .local := by first | exact .inl rfl | exact .inr rfl | assumption) :
    ES X mu rm (.AugAssign (.Name x pos') .Add e pos) (sAug i f1) := ps_imp (ps_aug hN hi hx he ip_add hf) fun D σ H ⟨g, O, G, B, oc, F, hb, e0, q⟩ => by
  unfold sAug at e0
  cases e1 : f1 G B with
  | none => rw [e1] at e0; cases e0
  | some p1 =>
    obtain ⟨d, B1⟩ := p1
    rw [e1, Option.bind_some] at e0
    cases e2 : gat G i with
    | none => rw [e2] at e0; cases e0
    | some d0 =>
      rw [e2] at e0
      cases d0 with
      | int a =>
        cases d with
        | int b =>
          cases e0
          obtain ⟨As, nd, dj, ss, sl⟩ := F.slots
          obtain ⟨m, v, h1, h2, h3⟩ := sl i _ (gat_some e2)
          rw [hm] at h1; cases h1
          generalize As i = A at h3
          cases h3
          refine ⟨.int a, h2, g, O, G, B, _, B1, F, hb, e1, fun y H1 A G1 => ?_⟩
          have ey : y = .int b := by have h := G1.rw_; cases h; rfl
          subst ey
          have F1 := F.step0 hb G1.ext G1.bag
          refine ⟨a, b, rfl, rfl, ?_⟩
          have Gn : Got X.K g.b g.l O H H1 B1 (.val .frz) (.int (a + b)) (.int (a + b)) [] := ⟨G1.ext, (fun a z => nomatch z), List.nodup_nil, G1.bag, Rw.int⟩
          exact q _ H1 _ (F.set hb Gn hm) G1.bag (Gn.sub F hb)
        | _ => cases e0
      | _ => cases d <;> cases e0
end
end Xa
/-! XE4: dict comprehensions whose keys are tuples. -/
namespace Xa
open PySem PySem.Spec
open PyProof.Rows L2

/-- a new entry, the key a tuple -/
theorem d_dictSetT {X : Cx} {pins : List (Addr × Obj)} {σ : L2.St} {H : Hp} {s : Shared} {Er : Value → Shared → Prop} {D b : Addr} {kvs : List (List Key × V)} {k : List Key} {v : V} {r : Value} {Q : Unit → Shared → Prop} (hu : X.A.units + 1 < cLine) (I : Inv X pins σ H s) (hD : H D = some (.dT kvs)) (hz : kvs.length < sizeLine) (eb : H b = some (.tup (k.map kV))) (rv : RelV v r) (h : ∀ s', Inv X pins σ (upd H D (.dT (putK kvs k v))) s' → Q () s') : wpAny (model X.prog X.w) X.A (dictSet D (.ref b) r) Q Er s := by
  have ⟨z, hd, xs, rel, dd⟩ := dt_of I.hok hD
  have hm : X.A.units < cLine := by omega
  have z2 : (putK kvs k v).length ≤ sizeLine := Nat.le_trans (length_putK kvs k v) hz
  refine wpAny_dictSet_heap (hsz := by have e := Paired.length rel; omega) hm (key_of I.hok eb) dd fun h' ⟨q, es, ep, hq, a2, a3, a4, _, a5⟩ sb => h _ (d_write I (by rw [hD]; trivial) sb ⟨q, hq⟩ ⟨z2, hd, _, (rel.put k eb rv).keeps fun c ys ec => ?_, q, es, ep, hq, a2, a3, a4, a5⟩)
  have nc : c ≠ D := fun e => by rw [e, hD] at ec; cases ec
  rw [upd_ne nc]; exact ec
def tDcT (wi : TI) (g : TG) (tt : TT) (tk tv : TE) (vs : List Nat) : TE := fun σ H Q => wi σ H fun J H1 => ∀ D, H1 D = none → ∃ W : Nat → Nat → Hp → Prop, (∃ m, W 0 m (upd H1 D (.dT []))) ∧ ∀ i m H, W i m H →
  (J.stop i H ∧ Q (.ref D) H) ∨ (J.go i H ∧ ∃ Nx : Hp → Prop, (∀ H', Nx H' → ∃ m', m' < m ∧ W (i + 1) m' H') ∧ ∀ x H', J.yld i H x H' → g x (wipe σ vs) H' fun σ2 H2 => wipe σ2 vs = wipe σ vs ∧ tt σ2 H2 fun c H3 =>
    if c = true then tk σ2 H3 fun y H4 => tv σ2 H4 fun z H5 => ∃ (kvs : List (List Key × V)) (k : List Key) (b : Addr), y = .ref b ∧ H5 b = some (.tup (k.map kV)) ∧ H5 D = some (.dT kvs) ∧ kvs.length < sizeLine ∧ Nx (upd H5 D (.dT (putK kvs k z))) else Nx H3)
/-- a dict comprehension whose keys are tuples: D the new dict -/
theorem dcT_core {X : Cx} {pins : List (Addr × Obj)} {s : Shared} {σ : L2.St} {H : Hp} {Q : VK} {kx vx tg iter : Expr} {ifs : List Expr} {scope : Scope} {own : List (Str × Nat)} {pos pos' : Pos} {wi : TI} {g : TG} {tt : TT} {tk tv : TE} {use : Option (Value → Sem Unit)} {Qf : Value → Shared → Prop} (hu : X.A.units + 1 < cLine)
    (calm : X.calm = true) (nd : X.N.Nodup) (I : Inv X pins σ H s) (hi : PI X tg iter wi) (ok : BlkOk X.N X.env.scope scope own)
    (hblk : ∀ (t : Shared) (J : Hp) (C : Addr) (cl : List (Str × Addr)) (fp : List Addr), PG (X.blk t J scope (compEnvC scope cl C X.env) fp) tg g ∧ PTs (X.blk t J scope (compEnvC scope cl C X.env) fp) ifs tt ∧ PE (X.blk t J scope (compEnvC scope cl C X.env) fp) kx tk ∧ PE (X.blk t J scope (compEnvC scope cl C X.env) fp) vx tv) (fold : ∀ x, foldedSetIterable iter X.env x = pure x)
    (h : tDcT wi g tt tk tv (own.map (·.2)) σ H Q)
    (out : ∀ D C s' m H', Inv X pins σ H' s' → Q (.ref D) H' → s'.heap.Ns C m → FpOk X pins H' C → compPost (model X.prog X.w) X.A X.xe use Qf (.ref D) C (.ok .next) s') :
    wpAny (model X.prog X.w) X.A (comprehension (.DictComp kx vx [⟨tg, iter, ifs,
            0⟩] scope pos) scope X.env pos' newDict false (eval iter X.env) use) Qf X.xe s := by
  have free : ∀ y ∈ scope.names, y.2 = .free → ∃ c, X.env.cells.lookup y.1 = some c := fun y hy e => (ok.free y hy e).elim (fun k => I.ok.has _ (.inl k)) fun k => I.ok.has _ (.inr k)
  refine wpAny_comprehension_free (use := use) rfl fold (closure_ok free) ok.kind (fun y hy e => (ok.uniq y hy).trans (by rw [e])) (thn (hi.run pins s σ H _ I h) fun xv s1 hx => thn hx fun itv s2 h2 => ?_)
  obtain ⟨it, fp, tn, J, H2, ei, I2, T, st2, f2, q⟩ := h2
  cases ei
  refine wpAny_newObj_type (newEnv_comp ?_); generalize hD : s2.heap.objs.size = D
  obtain ⟨W, ⟨m0, w0⟩, turn⟩ := q D (I2.hok.fresh (Nat.le_of_eq hD))
  let emptyD : Obj := { cls := .type "dict", data := .dict #[] }
  generalize hs3 : ({ s2 with heap := s2.heap.push emptyD } : Shared) = s3
  have h3 : s3.heap = s2.heap.push emptyD := by subst hs3; rfl
  have I3 : Inv X pins σ (upd H2 D (.dT [])) s3 := by
    subst hs3
    exact I2.laid (t' := s2.toks) (fun b o e => Heap.get?_push_of_some _ e) (Nat.le_of_eq hD) (hD ▸ dt_empty s2.heap I2.big)
  have sz : ∀ c ∈ fp, c < s2.heap.objs.size := fun c hc => let ⟨o, e, _⟩ := T.obj _ _ st2 c hc; Heap.lt_size e
  have f3 : ∀ c ∈ fp, FpOk X pins (upd H2 D (.dT [])) c ∧ c < s3.heap.objs.size := fun c hc =>
    ⟨⟨by rw [upd_ne (hD ▸ Nat.ne_of_lt (sz c hc))]; exact (f2 c hc).1, (f2 c hc).2⟩, by rw [h3, Heap.size_push]; exact Nat.lt_succ_of_lt (sz c hc)⟩
  have st3 : tn 0 s3.heap := T.keep _ _ _ st2 fun c _ o e => h3 ▸ Heap.get?_push_of_some _ e
  have I4 := block_start I3 ok nd f3
  obtain ⟨pg, pt, pk, pe⟩ := hblk s3 (upd H2 D (.dT [])) s3.heap.objs.size (cellsFrom (s3.heap.objs.size + 1) scope.names (cloFrom X.env.cells scope.names [])) fp
  show codeAny _ _ (.compStart (.DictComp kx vx [⟨tg, iter, ifs, 0⟩] scope pos) 0 (.ref it) (.ref D) (compEnvC scope (cellsFrom (s3.heap.objs.size + 1) scope.names (cloFrom X.env.cells scope.names [])) s3.heap.objs.size X.env)) (compPost (model X.prog X.w) X.A X.xe use Qf (.ref D) s3.heap.objs.size) { s3 with heap := pushCells (s3.heap.push emptyD) scope.names }
  have none3 : ∀ c ∈ fp, (upd H2 D (.dT [])) c = none := fun c hc => (f3 c hc).1.1
  generalize hce : compEnvC scope (cellsFrom (s3.heap.objs.size + 1) scope.names (cloFrom X.env.cells scope.names [])) s3.heap.objs.size X.env = ce at I4 pg pt pk pe ⊢; have cL : ce.locals = s3.heap.objs.size := hce ▸ rfl
  generalize hH3 : upd H2 D (.dT []) = H3 at I3 I4 pg pt pk pe w0 none3 f3
  have I4 : Inv (X.blk s3 H3 scope ce fp) [] (wipe σ (own.map (·.2))) H3 { s3 with heap := pushCells (s3.heap.push emptyD) scope.names } := I4
  generalize hs4 : ({ s3 with heap := pushCells (s3.heap.push emptyD) scope.names } : Shared) = s4 at I4 ⊢
  have st4 : tn 0 s4.heap := T.keep _ _ _ st3 fun c _ o e => hs4 ▸ pushCells_keeps _ _ _ _ (Heap.get?_push_of_some _ e)
  have stat : ∀ {σ' : L2.St} {H' : Hp} {s' : Shared}, Inv (X.blk s3 H3 scope ce fp) [] σ' H' s' → (∀ c ∈ fp, H' c = none) → ∀ c ∈ fp, FpOk (X.blk s3 H3 scope ce fp) [] H' c := fun {σ' H' s'} I' hn c hc =>
    ⟨hn c hc, (I'.ok.exf c hc).1, I'.ok.exfs c hc, .inl hc, fun x d e => (I'.ok.exf c hc).2 x d e, fun p hp => (by simp at hp : False).elim⟩
  have loop : codeAny (model X.prog X.w) X.A (.compLoop (.DictComp kx vx [⟨tg, iter, ifs,
          0⟩] scope pos) 0 (.ref it) (.ref D) ce) (compPost (model X.prog X.w) X.A X.xe use Qf (.ref D) s3.heap.objs.size) s4 := by
    refine compLoop_anyD (fun n s' => ∃ i H', Inv (X.blk s3 H3 scope ce fp) [] (wipe σ (own.map (·.2))) H' s' ∧ tn i s'.heap ∧ (∀ c ∈ fp, H' c = none) ∧ W i n H') (fun n s5 hn5 => ?_) m0 ⟨0, H3, I4, st4, none3, w0⟩
    obtain ⟨i, H5, I5, st5, n5, w5⟩ := hn5; rcases turn i n H5 w5 with ⟨stop, qq⟩ | ⟨go, Nx, hNx, step⟩
    · refine thnF (T.done (X.blk s3 H3 scope ce fp) rfl rfl rfl calm i [] s5 _ H5 (fun _ _ => False) I5 (stat I5 n5) st5 stop) fun r s6 ⟨hr, I6⟩ => ?_
      cases hr
      have f4 : ∀ c ∈ fp, FpOk X pins H3 c := fun c hc => (f3 c hc).1
      have I7 : Inv X pins σ H5 s6 := I3.call' (ch := fp) I6.os I6.base I6.hok I6.bare fun c hc => ⟨(f4 c hc).2.2.2.1, (f4 c hc).2.1, (f4 c hc).2.2.2.2.1, (f4 c hc).2.2.2.2.2⟩
      have nC : H5 s3.heap.objs.size = none := cL ▸ (I6.free : H5 ce.locals = none)
      obtain ⟨m, hn, _⟩ := I6.loc
      exact out D s3.heap.objs.size s6 m H5 I7 qq (cL ▸ (hn : s6.heap.Ns ce.locals m)) (I3.fpOk (Nat.le_refl _) nC)
    · refine thnF (T.item (X.blk s3 H3 scope ce fp) rfl rfl rfl calm i [] s5 _ H5 (fun _ _ => False) I5 (stat I5 n5) st5 go) fun r s6 ⟨u, hr, h6⟩ => ?_
      cases hr
      refine thnF h6 fun _ s7 ⟨x, H7, I7, r7, y7, st7, n7⟩ => ?_; have J7 := I7.pinned (stat I7 n7) (T.obj _ _ st7)
      refine thnF (pg.run _ s7 _ H7 x u _ J7 r7 (step x H7 y7)) fun _ s8 ⟨σ8, H8, I8, hw8, q8⟩ => thnF (pt.run _ s8 σ8 H8 _ I8 q8) fun c s9 ⟨H9, I9, q9⟩ => ?_
      have fin : ∀ {s' : Shared} {H' : Hp}, Inv (X.blk s3 H3 scope ce fp) ([] ++ pinsAt fp s7.heap) σ8 H' s' → Nx H' → ∃ m, m < n ∧ ∃ i H', Inv (X.blk s3 H3 scope ce fp) [] (wipe σ (own.map (·.2))) H' s' ∧ tn i s'.heap ∧ (∀ c ∈ fp, H' c = none) ∧ W i m H' := fun {s' H'} I' nx => by
        obtain ⟨m',
                hm, w'⟩ := hNx H' nx
        have pin : ∀ c ∈ fp, ∀ o, s7.heap.get? c = some o → s'.heap.get? c = some o ∧ H' c = none := fun c hc o e => by
          have z := I'.pin (c, o) (List.mem_append_right _ (List.mem_append_right _ (mem_pinsAt hc e)))
          exact ⟨z.1, z.2.1⟩
        have wl : (wipe σ (own.map (·.2))).length = σ8.length := by rw [← hw8, wipe_length]
        refine ⟨m', hm, i + 1, H', (I'.unpinned (pins := [])).weak wl (fun j v e => ?_), T.keep _ _ _ st7 fun c hc o e => (pin c hc o e).1, fun c hc => let ⟨o, e, _⟩ := T.obj _ _ st7 c hc; (pin c hc o e).2, w'⟩
        exact (wipe_some (hw8.symm ▸ e)).1
      cases c with
      | false =>
        simp only [Bool.false_eq_true, if_false] at q9 ⊢; exact fin I9 q9
      | true =>
        simp only [if_true] at q9 ⊢
        refine thnF (pk.run _ s9 σ8 H9 _ I9 q9) fun z s10 ⟨yk, H10, I10, r10, q10⟩ => thnF (pe.run _ s10 σ8 H10 _ I10 q10) fun z2 s11 ⟨yv, H11, I11, r11, kvs, k, b, ek, eb, hD11, hz11, nx⟩ => ?_
        cases ek; cases r10
        exact d_dictSetT (X := X.blk s3 H3 scope ce fp) hu I11 hD11 hz11 eb r11 fun s12 I12 => fin I12 nx
  exact codeAny_compStart_dict loop (T.self
          X.A 0 _ _ _ st4 loop)

end Xa
/-! XE5: dict comprehensions whose keys are tuples, by data. -/
namespace Xa
open PySem PySem.Spec
open PyProof.Rows L2
def dcGoT (tgt : TgD) (u : DT) (fk fv : DE) (G : Gam) : List D → List (D × D) → Bag → Option (List (D × D) × Bag)
  | [], acc, B => some (acc, B)
  | d :: r, acc, B => (tgt G d).bind fun G1 => (u G1 B).bind fun c => if c.1 = true then (fk G1 c.2).bind fun k => (fv G1 k.2).bind fun p => if (tOf k.1).isSome = true ∧ (acc.any fun q => keq q.1 k.1) = false then dcGoT tgt u fk fv G r (acc ++ [(k.1, p.1)]) p.2 else none else dcGoT tgt u fk fv G r acc c.2
def dDcT (src : DA) (own : List Nat) (tgt : TgD) (u : DT) (fk fv : DE) : DE := fun G B => (src G B).bind fun p => if p.1.length ≤ sizeLine then (dcGoT tgt u fk fv (wipeG G own) p.1 [] p.2).map fun q => (.dic q.1, q.2) else none
section
variable {X : Cx} {mu : List Md} {tg iter kx vx : Expr} {ifs : List Expr} {src : DA} {f fk fv : DE} {u : DT} {pos p : Pos} {own : List (Str × Nat)} {scope : Scope} {gt : TG} {tgt : TgD} {m : Md}
theorem any_zipT {es : List (List Key × V)} {ds : List D} (hl : (es.map (·.2)).length = ds.length) (k : List Key) : (((es.map fun p => kT p.1).zip ds).any fun q => keq q.1 (kT k)) = (es.any fun p => decide (p.1 = k)) := by
  induction es generalizing ds with
  | nil => rfl
  | cons e r ih =>
    cases ds with
    | nil => simp at hl
    | cons d0 ds =>
      have := ih (ds := ds) (by simpa using hl)
      simp only [List.map_cons, List.zip_cons_cons, List.any_cons, keq_kT]
      rw [this]
theorem dcT_imp (hm : m ≠ .bag) (hg : TgOk X.K mu (own.map (·.2)) gt tgt) (σ : L2.St) (H : Hp) (Q : VK) (h : tE X.K mu (.val (.own m)) (dDcT src (own.map (·.2)) tgt u fk fv) σ H Q) :
    tDcT (tI WalkC X.K mu src) gt (tTs X.K mu u) (tE X.K mu fz fk) (tE X.K mu (.val m) fv) (own.map (·.2)) σ H Q := by
  obtain ⟨g, O, G, B, d, B', F, hb, e, q⟩ := h
  unfold dDcT at e
  cases e1 : src G B with
  | none => rw [e1] at e; cases e
  | some p =>
    obtain ⟨ds, B1⟩ := p
    rw [e1, Option.bind_some] at e
    simp only at e
    split at e
    · rename_i hz
      cases e2 : dcGoT tgt u fk fv (wipeG G (own.map (·.2))) ds [] B1 with
      | none => rw [e2] at e; cases e
      | some q2 =>
        obtain ⟨res, B2⟩ := q2
        rw [e2] at e
        cases e
        refine ⟨g, O, G, B, ds, B1, F, hb, e1, fun J H1 x1 b1 wk Dd nD => ?_⟩
        have F1 := F.step0 hb x1 b1
        have Dne : ∀ {c o}, H1 c = some o → c ≠ Dd := fun h z => by rw [z, nD] at h; cases h
        -- what holds ahead of turn i
        let In : Nat → Hp → Prop := fun i H => ∃ (es : List (List Key × V)) (dl : List D) (A : List Addr) (Bi : Bag), H Dd = some (.dT es) ∧ es.length ≤ i ∧ OwL X.K g.b (orA O (Dd :: A)) H m (es.map (·.2)) dl A ∧ dcGoT tgt u fk fv (wipeG G (own.map (·.2))) (ds.drop i) ((es.map fun p => kT p.1).zip dl) Bi = some (res, B2) ∧
            Ext g.b H1 H ∧ BagAt g.b g.l H Bi ∧ (∀ a ∈ A, H1 a = none) ∧ (Dd :: A).Nodup
        refine ⟨fun i k H => k = ds.length - i ∧ i ≤ ds.length ∧ In i H, ⟨ds.length, by simp, Nat.zero_le _, [], [], [], B1, upd_same, Nat.le_refl _, .nil, e2, fun a o n h => by rw [upd_ne (Dne h)]; exact h, b1.grow (fun a o z => by rw [upd_ne (Dne z)]; exact z), (fun a z => nomatch z), by simp⟩, ?_⟩
        rintro i k Hi ⟨rfl, hi, es, dl, A, Bi, hD, hl, t, ec, xi, bi, fA, nd⟩
        have eqv : ∀ a, H1 a ≠ none → (orA O (Dd :: A) a ↔ O a) := fun a n => ⟨fun z => z.elim id fun z => (List.mem_cons.mp z).elim (fun e => absurd nD (e ▸ n)) fun z => absurd (fA a z) n, .inl⟩
        have dmA : ∀ a ∈ A, Hi a ≠ none := fun a z => (Ow.dom.2 t a z).2
        have dmO : ∀ a, orA O (Dd :: A) a → Hi a ≠ none := fun a z => by
          rcases z with z | z
          · by_cases e : a = g.b
            · exact e ▸ bi.ne
            · cases h : H1 a with
              | none => exact absurd h (F1.dom a z)
              | some o => rw [xi a o e h]; simp
          · rcases List.mem_cons.mp z with e | z
            · rw [e, hD]; simp
            · exact dmA a z
        have Fi : Fr X.K g (orA O (Dd :: A)) mu (wipeG G (own.map (·.2))) (wipe σ (own.map (·.2))) Hi := (F1.more b1 xi bi eqv dmO).wiped _
        have yl := wk (orA O (Dd :: A)) Hi xi eqv bi.box
        by_cases hlt : i < ds.length
        · obtain ⟨dI, hdI⟩ : ∃ dI, ds[i]? = some dI := ⟨ds[i], List.getElem?_eq_getElem hlt⟩
          obtain ⟨go, yld⟩ := yl.1 i dI hdI
          have edrop : ds.drop i = dI :: ds.drop (i + 1) := by
            rw [List.drop_eq_getElem_cons hlt]; rw [List.getElem?_eq_getElem hlt] at hdI
            cases hdI; rfl
          rw [edrop] at ec
          unfold dcGoT at ec
          cases c1 : tgt (wipeG G (own.map (·.2))) dI with
          | none => rw [c1] at ec; cases ec
          | some G1 =>
            rw [c1, Option.bind_some] at ec
            cases c2 : u G1 Bi with
            | none => rw [c2] at ec; cases ec
            | some p2 =>
              obtain ⟨c, Bc⟩ := p2
              simp only [c2, Option.bind_some] at ec
              refine .inr ⟨go, fun H => In (i + 1) H, fun H' h => ⟨ds.length - (i + 1), by omega, rfl, hlt, h⟩, fun x H' y => ?_⟩
              obtain ⟨gr, ox⟩ := yld x H' y
              have b' : BagAt g.b g.l H' Bi := bi.grow gr
              have F' : Fr X.K g (orA O (Dd :: A)) mu (wipeG G (own.map (·.2))) (wipe σ (own.map (·.2))) H' := Fi.more bi (fun a o _ h => gr a o h) b' (fun _ _ => Iff.rfl) fun a z => by
                cases h : Hi a with
                | none => exact absurd h (dmO a z)
                | some o => rw [gr a o h]; simp
              refine hg g _ _ G1 _ H' x dI _ F' ox c1 fun σ2 F2 hw => ⟨hw σ rfl, ?_⟩
              refine ⟨g, _, G1, Bi, c, Bc, F2, b', c2, fun H3 x3 b3 => ?_⟩
              have F3 := F2.step0 b' x3 b3
              have xi3 : Ext g.b Hi H3 := fun a o n h => x3 a o n (gr a o h)
              have nbA : g.b ∉ A := fun z => b1.ne (fA _ z)
              have nDb : Dd ≠ g.b := fun z => b1.ne (z ▸ nD)
              have offi : Off (orA O (Dd :: A)) g.b Hi H3 := bi.off (.inl F.ob) xi3
              have t3 : OwL X.K g.b (orA O (Dd :: A)) H3 m (es.map (·.2)) dl A := (Ow.off offi fun _ _ => Iff.rfl).2 t nbA
              have hD3 : H3 Dd = some (.dT es) := xi3 _ _ nDb hD
              have x13 : Ext g.b H1 H3 := fun a o n h => xi3 a o n (xi a o n h)
              cases c with
              | false =>
                rw [if_neg Bool.false_ne_true] at ec
                exact iteF ⟨es, dl, A, Bc, hD3, by omega, t3, ec, x13, b3, fA, nd⟩
              | true =>
                rw [if_pos rfl] at ec
                refine iteT ?_
                cases c0 : fk G1 Bc with
                | none => rw [c0] at ec; cases ec
                | some p0 =>
                  obtain ⟨dk, Bk⟩ := p0
                  simp only [c0, Option.bind_some] at ec
                  cases c3 : fv G1 Bk with
                  | none => rw [c3] at ec; cases ec
                  | some p3 =>
                    obtain ⟨dE, Be⟩ := p3
                    simp only [c3, Option.bind_some] at ec
                    split at ec
                    · rename_i hk
                      refine ⟨g, _, G1, Bc, dk, Bk, F3, b3, c0, fun y H4 Ak Gk => ?_⟩
                      have F4 := F3.step0 b3 Gk.ext Gk.bag
                      have x14 : Ext g.b H1 H4 := fun a o n h => Gk.ext a o n (x13 a o n h)
                      have t4 : OwL X.K g.b (orA O (Dd :: A)) H4 m (es.map (·.2)) dl A := (Ow.off (b3.off (.inl F.ob) Gk.ext) fun _ _ => Iff.rfl).2 t3 nbA
                      have hD4 : H4 Dd = some (.dT es) := Gk.ext _ _ nDb hD3
                      obtain ⟨k, ek⟩ : ∃ k, tOf dk = some k := Option.isSome_iff_exists.mp hk.1
                      obtain rfl := tOf_inv ek
                      obtain ⟨ak, ey, hk4⟩ := Ow.tkey (Gk.rw_ : Ow X.K g.b _ H4 .frz y (kT k) Ak)
                      refine ⟨g, _, G1, Bk, dE, Be, F4, Gk.bag, c3, fun z H5 A5 G5 => ⟨es, k, ak, ey, G5.ext _ _ (fun e => Gk.bag.noT (e ▸ hk4)) hk4, ?_⟩⟩
                      have nb5 : g.b ∉ A5 := fun z => Gk.bag.ne (G5.fresh _ z)
                      have hD5 : H5 Dd = some (.dT es) := G5.ext _ _ nDb hD4
                      have off45 : Off (orA O (Dd :: A)) g.b H4 H5 := Gk.bag.off (.inl F.ob) G5.ext
                      have eO : orA (orA O (Dd :: A)) A5 = orA O (Dd :: (A ++ A5)) := by
                        funext a
                        simp only [orA, List.mem_cons, List.mem_append, or_assoc]
                      have t5 : OwL X.K g.b (orA O (Dd :: (A ++ A5))) H5 m (es.map (·.2)) dl A := (Ow.off off45 fun a n => by
                        rw [← eO]
                        exact ⟨fun z => z.elim id fun z => absurd (G5.fresh a z) n, .inl⟩).2 t4 nbA
                      have r5 := G5.rw_
                      rw [eO] at r5
                      have nDA5 : Dd ∉ A5 := fun z => by have := G5.fresh _ z; rw [hD4] at this; cases this
                      obtain ⟨nDA, ndA⟩ := List.nodup_cons.mp nd
                      have dA : ∀ a ∈ A, H4 a ≠ none := fun a z => (Ow.dom.2 t4 a z).2
                      have hoff : Off (orA O (Dd :: (A ++ A5))) Dd H5 (upd H5 Dd (.dT (es ++ [(k, z)]))) := off_upd (.inr List.mem_cons_self) hD5 (fun _ z => by cases z) fun _ _ z => by cases z
                      have hnew : valV es k = none := by
                        have h1 := any_zipT t.len k
                        rw [hk.2] at h1
                        have h2 := valV_any k es
                        rw [← h1] at h2
                        cases h3 : valV es k with
                        | none => rfl
                        | some w => rw [h3] at h2; cases h2
                      refine ⟨hD5, Nat.lt_of_lt_of_le (Nat.lt_of_le_of_lt hl hlt) hz, ?_⟩
                      rw [putK_new z hnew]
                      refine ⟨es ++ [(k, z)], dl ++ [dE], A ++ A5, Be, upd_same, by rw [List.length_append]; simpa using hl, ?_, ?_, fun a o n h => ?_, G5.bag.upd nDb (fun z => by rw [z, b1.cells] at nD; cases nD) (fun _ z => by rw [hD5] at z; cases z), fun a z => ?_, ?_⟩
                      · have h1 := (Ow.off hoff fun _ _ => Iff.rfl).2 t5 nDA
                        have h2 := (Ow.off hoff fun _ _ => Iff.rfl).1 r5 nDA5
                        have h3 : OwL X.K g.b (orA O (Dd :: (A ++ A5))) (upd H5 Dd (.dT (es ++ [(k, z)]))) m [z] [dE] (A5 ++ []) := .cons h2 .nil
                        rw [List.append_nil] at h3
                        have h4 := h1.app h3
                        rw [List.map_append]
                        exact h4
                      · rw [List.map_append, List.zip_append (by have := t.len; simpa using this)]
                        exact ec
                      · rw [upd_ne (Dne h)]
                        exact G5.ext a o n (x14 a o n h)
                      · rcases List.mem_append.mp z with z | z
                        · exact fA a z
                        · cases h : H1 a with
                          | none => rfl
                          | some o =>
                            by_cases e : a = g.b
                            · exact absurd (e ▸ z) nb5
                            · have := G5.fresh a z
                              rw [x14 a o e h] at this; cases this
                      · refine List.nodup_cons.mpr ⟨fun z => (List.mem_append.mp z).elim nDA nDA5, List.nodup_append.mpr ⟨ndA, G5.nd, fun a z c z' ee => ?_⟩⟩
                        subst ee
                        exact dA a z (G5.fresh a z')
                    · cases ec
        · have ei : i = ds.length := by omega
          subst ei
          rw [List.drop_length] at ec
          unfold dcGoT at ec
          cases ec
          refine .inl ⟨yl.2, q _ Hi (Dd :: A) ⟨fun a o n h => xi a o n (x1 a o n h), fun a z => ?_, nd, bi, ?_⟩⟩
          · have nn : H1 a = none := (List.mem_cons.mp z).elim (fun e => e ▸ nD) (fA a)
            cases h : H a with
            | none => rfl
            | some o =>
              by_cases e : a = g.b
              · exact (b1.ne (e ▸ nn)).elim
              · rw [x1 a o e h] at nn; cases nn
          · exact Ow.dtO hm (.inr List.mem_cons_self) hD t
    · cases e
theorem ps_setDcT {i : Nat} {y : Str} {py spos : Pos} {wi : TI} {g : TG} {tt : TT} {tk tv : TE} (hu : X.A.units + 1 < cLine) (hc : X.calm = true) (hN : X.N.Nodup) (hy : X.N[i]? = some y) (hyl : X.env.scope.names.lookup y = some .local) (hsw : swapsWith (.DictComp kx vx [⟨tg, iter, ifs, 0⟩] scope pos) (some (.Name y py)) spos.line X.env = pure true) (hi : PI X tg iter wi) (ok : BlkOk X.N X.env.scope scope own) (hg : ∀ (s : Shared) (H : Hp) (C : Addr) (cl : List (Str × Addr)) (fp : List Addr), PG (X.blk s H scope (compEnvC scope cl C X.env) fp) tg g) (ht : ∀ (s : Shared) (H : Hp) (C : Addr) (cl : List (Str × Addr)) (fp : List Addr), PTs (X.blk s H scope (compEnvC scope cl C X.env) fp) ifs tt)
    (hk : ∀ (s : Shared) (H : Hp) (C : Addr) (cl : List (Str × Addr)) (fp : List Addr), PE (X.blk s H scope (compEnvC scope cl C X.env) fp) kx tk) (he : ∀ (s : Shared) (H : Hp) (C : Addr) (cl : List (Str × Addr)) (fp : List Addr), PE (X.blk s H scope (compEnvC scope cl C X.env) fp) vx tv)
    (hs : ∀ x, foldedSetIterable iter X.env x = pure x := by intro _; rfl) : PS X (.Assign [.Name y py] (.DictComp kx vx [⟨tg, iter, ifs, 0⟩] scope pos) spos) (tAsg (tDcT wi g tt tk tv (own.map (·.2))) (gName i)) := by
  refine ⟨fun pins s σ H D I h => ?_⟩; rw [exec_Assign_Name_used _ _ _ _ hsw]
  refine wpAny_bind (wpAny_standAt (wpAny_bind ?_)); show wpAny _ X.A (do let _ ← comprehension (.DictComp kx vx [⟨tg, iter, ifs, 0⟩] scope pos) scope X.env (firstIterPos [⟨tg, iter, ifs, 0⟩] pos) newDict false (eval iter X.env) (some (assign (.Name y py) X.env))) _ _ s
  have h : tDcT wi g tt tk tv (own.map (·.2)) σ H (fun x H1 => gName i x σ H1 D.nx) := h
  refine wpAny_bind (thn (dcT_core (Qf := fun _ s' => SP X pins D .next s') hu hc hN I hi ok (fun t J C cl fp => ⟨hg t J C cl fp, ht t J C cl fp, hk t J C cl fp, he t J C cl fp⟩) hs h fun L C s' m H' I' q hn f => ?_) fun _ s' hq => wpAny_pure (wpAny_pure hq))
  show wpAny _ _ (assign (.Name y py) X.env (.ref L)) _ _ _; obtain ⟨f0, f1, f2, f3, f4, f5⟩ := f
  refine wpAny_assign_Name (store_ok2 (v := V.ref L) I' hN hy (.inl hyl) rfl (fun s2 I2 ⟨a, sb, ha⟩ => ⟨m, hn.sameBut sb ?_, fun h3 sb3 => ⟨_, H', I2.turned (t' := s2.toks) (fun b o hb e => (sb3.2 b hb).trans e) f0 f1 f3 f4 f5, q⟩⟩) (.inr hyl))
  rcases ha with z | z
  · exact z ▸ f1
  · exact fun e =>
      f4 y a z e.symm
theorem pe_dcT {wi : TI} {g : TG} {tt : TT} {tk tv : TE} (hu : X.A.units + 1 < cLine) (hc : X.calm = true) (hN : X.N.Nodup) (hi : PI X tg iter wi) (ok : BlkOk X.N X.env.scope scope own) (hg : ∀ (s : Shared) (H : Hp) (C : Addr) (cl : List (Str × Addr)) (fp : List Addr), PG (X.blk s H scope (compEnvC scope cl C X.env) fp) tg g) (ht : ∀ (s : Shared) (H : Hp) (C : Addr) (cl : List (Str × Addr)) (fp : List Addr), PTs (X.blk s H scope (compEnvC scope cl C X.env) fp) ifs tt) (hk : ∀ (s : Shared) (H : Hp) (C : Addr) (cl : List (Str × Addr)) (fp : List Addr), PE (X.blk s H scope (compEnvC scope cl C X.env) fp) kx tk) (he : ∀ (s : Shared) (H : Hp) (C : Addr) (cl : List (Str × Addr)) (fp : List Addr), PE (X.blk s H scope (compEnvC scope cl C X.env) fp) vx tv) (hs : ∀ x, foldedSetIterable iter X.env x = pure x := by intro _; rfl) :
    PE X (.DictComp kx vx [⟨tg, iter, ifs, 0⟩] scope pos) (tDcT wi g tt tk tv (own.map (·.2))) := ⟨fun pins s σ H Q I h => by
  rw [arm_eval_DictComp]
  exact dcT_core hu hc hN I hi ok (fun t J C cl fp => ⟨hg t J C cl fp, ht t J C cl fp, hk t J C cl fp, he t J C cl fp⟩) hs h fun D C s' m H' I' q hn ⟨f0, f1, f2, f3, f4, f5⟩ => ⟨m, hn, fun h'' sb => ⟨.ref D, H', I'.turned (t' := s'.toks) (fun b o hb e => (sb.2 b hb).trans e) f0 f1 f3 f4 f5, rfl, q⟩⟩⟩
theorem es_setDcT {rm : Rm} {i : Nat} {y : Str} {py spos : Pos} (hu : X.A.units + 1 < cLine) (hc : X.calm = true) (hN : X.N.Nodup) (hy : X.N[i]? = some y) (hyl : X.env.scope.names.lookup y = some .local) (hsw : swapsWith (.DictComp kx vx [⟨tg, iter, ifs, 0⟩] scope pos) (some (.Name y py)) spos.line X.env = pure true) (hi : EIC X mu tg iter src) (ok : BlkOk X.N X.env.scope scope own) (hm : m ≠ .bag) (hmi : mu[i]? = some (.own m))
    (hg : ∀ (s : Shared) (H : Hp) (C : Addr) (cl : List (Str × Addr)) (fp : List Addr), PG (X.blk s H scope (compEnvC scope cl C X.env) fp) tg gt) (hgt : TgOk X.K mu (own.map (·.2)) gt tgt)
    (ht : ∀ (s : Shared) (H : Hp) (C : Addr) (cl : List (Str × Addr)) (fp : List Addr), EIfs (X.blk s H scope (compEnvC scope cl C X.env) fp) mu ifs u)
    (hk : ∀ (s : Shared) (H : Hp) (C : Addr) (cl : List (Str × Addr)) (fp : List Addr), EV (X.blk s H scope (compEnvC scope cl C X.env) fp) mu kx fz fk) (he : ∀ (s : Shared) (H : Hp) (C : Addr) (cl : List (Str × Addr)) (fp : List Addr), EV (X.blk s H scope (compEnvC scope cl C X.env) fp) mu vx (.val m) fv) (hs : ∀ x, foldedSetIterable iter X.env x = pure x := by intro _; rfl) :
    ES X mu rm (.Assign [.Name y py] (.DictComp kx vx [⟨tg, iter, ifs, 0⟩] scope pos) spos) (sSet i (dDcT src (own.map (·.2)) tgt u fk fv)) := ps_imp (ps_setDcT (tt := tTs X.K mu u) (tk := tE X.K mu fz fk) (tv := tE X.K mu (.val m) fv) hu hc hN hy hyl hsw hi ok hg ht hk he hs) fun D σ H h => dcT_imp hm hgt σ H _ (set_imp hmi D σ H h)
theorem ev_dcT (hu : X.A.units + 1 < cLine) (hc : X.calm = true) (hN : X.N.Nodup) (hi : EIC X mu tg iter src) (ok : BlkOk X.N X.env.scope scope own) (hm : m ≠ .bag)
    (hg : ∀ (s : Shared) (H : Hp) (C : Addr) (cl : List (Str × Addr)) (fp : List Addr), PG (X.blk s H scope (compEnvC scope cl C X.env) fp) tg gt) (hgt : TgOk X.K mu (own.map (·.2)) gt tgt)
    (ht : ∀ (s : Shared) (H : Hp) (C : Addr) (cl : List (Str × Addr)) (fp : List Addr), EIfs (X.blk s H scope (compEnvC scope cl C X.env) fp) mu ifs u)
    (hk : ∀ (s : Shared) (H : Hp) (C : Addr) (cl : List (Str × Addr)) (fp : List Addr), EV (X.blk s H scope (compEnvC scope cl C X.env) fp) mu kx fz fk) (he : ∀ (s : Shared) (H : Hp) (C : Addr) (cl : List (Str × Addr)) (fp : List Addr), EV (X.blk s H scope (compEnvC scope cl C X.env) fp) mu vx (.val m) fv) (hs : ∀ x, foldedSetIterable iter X.env x = pure x := by intro _; rfl) :
    EV X mu (.DictComp kx vx [⟨tg, iter, ifs, 0⟩] scope pos) (.val (.own m)) (dDcT src (own.map (·.2)) tgt u fk fv) := pe_imp (pe_dcT (tt := tTs X.K mu u) (tk := tE X.K mu fz fk) (tv := tE X.K mu (.val m) fv) hu hc hN hi ok hg ht hk he hs) (dcT_imp hm hgt)
end
end Xa
/-! XE6: sorted(d), list(d): a dict's keys. -/
namespace Xa
open PySem PySem.Spec
open PyProof.Rows L2
mutual
theorem reads_has {h : Heap} : ∀ {v : Value} {d : PyData} {as : List Addr}, Reads h v d as → ∀ a ∈ as, h.get? a ≠ none
  | _, _, _, .none, a, z => nomatch z
  | _, _, _, .bool _, a, z => nomatch z
  | _, _, _, .int _ _, a, z => nomatch z
  | _, _, _, .str _ _, a, z => nomatch z
  | _, _, _, .list e _ _ r, a, z => (List.mem_cons.mp z).elim (fun q => by rw [q, e]; simp) (readsAll_has r a)
  | _, _, _, .tuple _ _ _ r, a, z => readsAll_has r a z
  | _, _, _, .dict e _ _ r r2, a, z => by
    rcases List.mem_append.mp z with z | z
    · rcases List.mem_cons.mp z with q | z
      · rw [q, e]; simp
      · exact readsAll_has r a z
    · exact readsAll_has r2 a z
theorem readsAll_has {h : Heap} : ∀ {vs : List Value} {ds : List PyData} {as : List Addr}, ReadsAll h vs ds as → ∀ a ∈ as, h.get? a ≠ none
  | _, _, _, .nil, a, z => nomatch z
  | _, _, _, .cons r t, a, z => (List.mem_append.mp z).elim (reads_has r a) (readsAll_has t a)
end
theorem okSort_al {l : List (V × D)} (ok : okSort (l.map (·.2)) = true) : PySem.W.AllAlike (l.map fun p => py p.2) := by
  obtain ⟨h1, h2, h3, h4⟩ := okSort_inv ok
  intro d hd' d' hd''
  obtain ⟨p, hp, rfl⟩ := List.mem_map.mp hd'
  obtain ⟨p', hp', rfl⟩ := List.mem_map.mp hd''
  unfold sameKind at h1
  have := List.all_eq_true.mp h1 p.2 (List.mem_map_of_mem hp)
  exact List.all_eq_true.mp this p'.2 (List.mem_map_of_mem hp')
theorem okSort_so {l : List (V × D)} (ok : okSort (l.map (·.2)) = true) : PySem.W.Sortable (l.map fun p => py p.2) := by
  obtain ⟨h1, h2, h3, h4⟩ := okSort_inv ok
  rcases h2 with h2 | h2
  · refine .inl fun d hd' => ?_
    obtain ⟨p, hp, rfl⟩ := List.mem_map.mp hd'
    have := List.all_eq_true.mp h2 p.2 (List.mem_map_of_mem hp)
    cases e : p.2 with
    | tup l =>
      cases l with
      | nil => rw [e] at this; cases this
      | cons x r => exact ⟨_, _, by simp [e, py, pyL]; exact ⟨rfl, rfl⟩⟩
    | _ => rw [e] at this; cases this
  · refine .inr fun d hd' => ?_
    obtain ⟨p, hp, rfl⟩ := List.mem_map.mp hd'
    have := List.all_eq_true.mp h2 p.2 (List.mem_map_of_mem hp)
    cases e : p.2 <;> simp [e, okTop2] at this <;> exact ⟨by simp [py], by simp [py]⟩
section
variable {X : Cx} {pins : List (Addr × Obj)} {σ : L2.St} {s : Shared} {H : Hp}
theorem each_reads (I : Inv X pins σ H s) {L : Addr} (hL : s.heap.get? L = none) {h2 : Heap} (k : ∀ b o, s.heap.get? b = some o → h2.get? b = some o) : ∀ {l : List (V × D)} {us : List Value}, Vals (l.map (·.1)) us → (∀ q ∈ l, Dp X.K H q.1 (py q.2)) → PySem.W.EachIs (fun (u : Value) (p : V × D) => ∃ as, Reads h2 u (py p.2) as ∧ L ∉ as) us l
  | [], us, r, _ => by cases r; exact .nil
  | p :: l, us, r, hd => by
    cases r with
    | cons r1 r2 =>
      obtain ⟨as, e⟩ := Dp.reads I (py p.2) p.1 _ (hd p List.mem_cons_self) r1
      exact .cons ⟨as, PyProof.Rows.Reads.keeps k e, fun z => reads_has e L z hL⟩ (each_reads I hL k r2 fun q hq => hd q (List.mem_cons_of_mem _ hq))
theorem vals_is : ∀ {l : List (V × D)} {us : List Value}, Vals (l.map (·.1)) us → PySem.W.EachIs (fun (u : Value) (p : V × D) => RelV p.1 u) us l
  | [], us, r => by cases r; exact .nil
  | p :: l, us, r => by
    cases r with
    | cons a t => exact .cons a (vals_is t)
/-- sorted(x), whatever x is, when its items are collected -/
theorem sorted_col {v : Value} {l : List (V × D)} {Q : VK} (hu : X.A.units + 66 < cLine) (I : Inv X pins σ H s) (hd : ∀ q ∈ l, Dp X.K H q.1 (py q.2)) (ok : okSort (l.map (·.2)) = true)
    (col : ∀ (E : Value → Shared → Prop) (R : List Value → Shared → Prop), (∀ (h' : Heap) (tk : Nat) (us : List Value), (∀ b o, s.heap.get? b = some o → h'.get? b = some o) → Vals (l.map (·.1)) us → R us { s with heap := h', toks := tk }) → wpAny (model X.prog X.w) X.A.in1 (collect v) R E s)
    (q : ∀ p, H p = none → Q (.ref p) (upd H p (.lst ((l.mergeSort (PySem.W.dataLe false fun p : V × D => py p.2)).map (·.1))))) : wpAny (model X.prog X.w) X.A (call (.builtin "sorted") [v]) (EP X pins σ Q) X.xe s := by
  obtain ⟨h1, h2, h3, h4⟩ := okSort_inv ok
  refine Calls.call_function_entry PyProof.Rows.kind_sorted PyProof.Rows.plain_sorted PyProof.Rows.entry_sorted (PyProof.Rows.args_sorted1 _) ?_; unfold Builtin.«sorted»
  refine wpAny_bind (m := checkCount "sorted" 1 1 _) (wpAny_pure (wpAny_bind (col _ _ fun h' tk us hk r => ?_))); have I1 : Inv X pins σ H { s with heap := h', toks := tk } := I.kept hk
  have ul : us.length = l.length := by have := r.length; rw [List.length_map] at this; omega
  have hz : l.length ≤ sizeLine := by simpa using h4
  refine wpAny_bind (wpAny_newList ?_ (by omega))
  have hL : h'.get? h'.objs.size = none := by
    cases e : h'.get? h'.objs.size with
    | none => rfl
    | some o =>
        exact absurd (Heap.lt_size e) (Nat.lt_irrefl _)
  have kp : ∀ b o, h'.get? b = some o → (h'.push (seqObj "list" us.toArray 0)).get? b = some o := fun b o e => Heap.get?_push_of_some _ e
  have hoL : (h'.push (seqObj "list" us.toArray 0)).get? h'.objs.size = some (seqObj "list" us.toArray 0) := Heap.get?_push_size _ rfl
  refine wpAny_bind (wpAny_holding (PySem.W.list_sort_data (s := { s with heap := h'.push (seqObj "list" us.toArray 0), toks := tk }) (enc := fun p : V × D => py p.2) hoL (vals_is r) (each_reads I1 hL kp r hd) (okSort_al ok) (okSort_so ok) hz (fun p hp => ?_) fun out ho eo => ?_))
  · have h5 := List.all_eq_true.mp h3 p.2 (List.mem_map_of_mem hp)
    have h6 := SeqAt.depth_of_shaped h5
    show X.A.in1.units + 1 + _ < cLine
    have : X.A.in1.units = X.A.units + 1 := rfl
    omega
  · obtain ⟨c, hc⟩ := PyProof.Rows.sortedHeap_at (vs := us) (out := List.toArray out) hoL
    have hl2 : ((l.mergeSort (PySem.W.dataLe false fun p : V × D => py p.2)).map (·.1)).length ≤ sizeLine := by
      rw [List.length_map, List.length_mergeSort]; exact hz
    refine wpAny_pure ⟨_, rfl, .ref h'.objs.size, upd H h'.objs.size (.lst _), I1.laid (t' := tk) (fun b o e => ?_) (Nat.le_refl _) ⟨hl2, out, c, each_vals eo, hc⟩, rfl, q _ (I1.hok.fresh (Nat.le_refl _))⟩; have hb : b < h'.objs.size := Heap.lt_size e
    rw [PyProof.Rows.sortedHeap_old (Nat.ne_of_lt
            hb) (by rw [size_push']; exact Nat.lt_succ_of_lt hb)]
    exact kp b o e
/-- a key as a value -/
def KeyV (H : Hp) (v : V) (d : D) : Prop := (∃ k, d = kD k ∧ v = kV k) ∨ ∃ b k, v = .ref b ∧ d = kT k ∧ H b = some (.tup (k.map kV))
theorem KeyV.ow {K : PySem.W.Frag} {b : Addr} {O : Addr → Prop} {v : V} {d : D} (h : KeyV H v d) : Ow K b O H .frz v d [] := by
  rcases h with ⟨k, rfl, rfl⟩ | ⟨a, k, rfl, rfl, e⟩
  · cases k with
    | inl i => exact .int (by decide)
    | inr x => exact .str (by decide)
  · exact ow_kT (by decide) e
theorem keys_owl {K : PySem.W.Frag} {b : Addr} {O : Addr → Prop} {vs : List V} {ds : List D} (h : Paired (KeyV H) vs ds) : OwL K b O H .frz vs ds [] := by
  induction h with
  | nil => exact .nil
  | cons p _ ih => exact OwL.consN p.ow ih
/-- a dict at a, its keys ds -/
def KeysAt (H : Hp) (a : Addr) (ds : List D) : Prop := (∃ es : List (Key × V), Rd H a (.dK es) ∧ ds = es.map fun p => kD p.1) ∨ ∃ es : List (List Key × V), Rd H a (.dT es) ∧ ds = es.map fun p => kT p.1
theorem Vw.keysAt {K : PySem.W.Frag} {b : Addr} {O : Addr → Prop} {x : V} {kvs : List (D × D)} (h : Vw K b O H x (.dic kvs)) : ∃ a, x = .ref a ∧ KeysAt H a (kvs.map (·.1)) := by
  have zk : ∀ {κ : Type} {kk : κ → D} {es : List (κ × V)} {ds : List D}, OwL K b O H .frz (es.map (·.2)) ds [] → ((es.map fun p => kk p.1).zip ds).map (·.1) = es.map fun p => kk p.1 := fun {κ kk es ds} t => by
    have hl := t.len
    rw [List.length_map] at hl
    exact List.map_fst_zip (by rw [List.length_map]; omega)
  cases h with
  | of h =>
    cases h with
    | dkF _ r _ t => exact ⟨_, rfl, .inl ⟨_, r, zk t⟩⟩
    | dtF _ r _ t => exact ⟨_, rfl, .inr ⟨_, r, zk t⟩⟩
  | dk _ r t => exact ⟨_, rfl, .inl ⟨_, .inl r, zk t⟩⟩
  | dt _ r t => exact ⟨_, rfl, .inr ⟨_, .inl r, zk t⟩⟩
/-- the keys, collected -/
theorem keys_col (hc : X.calm = true) (I : Inv X pins σ H s) {a : Addr} {ds : List D} (h : KeysAt H a ds) : ∃ l : List (V × D), l.map (·.2) = ds ∧ (∀ q ∈ l, KeyV H q.1 q.2) ∧ ∀ (E : Value → Shared → Prop) (R : List Value → Shared → Prop), (∀ (h' : Heap) (tk : Nat) (us : List Value), (∀ b o, s.heap.get? b = some o → h'.get? b = some o) → Vals (l.map (·.1)) us → R us { s with heap := h', toks := tk }) → wpAny (model X.prog X.w) X.A.in1 (collect (.ref a)) R E s := by
  rcases h with ⟨es, r, rfl⟩ | ⟨es, r, rfl⟩
  · obtain ⟨z, lo, vs, rel, dd⟩ := dk_rd I.hok r
    obtain ⟨ep, hat⟩ := dd.dictAt
    have ek : (es.map fun p => kV p.1) = vs.map fun p => kV p.1 := by
      have e := congrArg (List.map kV) rel.keys; rw [List.map_map, List.map_map] at e
      exact e
    refine ⟨es.map fun p => (kV p.1, kD p.1), by rw [List.map_map]; rfl, fun q hq => ?_, fun E R k => ?_⟩
    · obtain ⟨p, _, rfl⟩ := List.mem_map.mp hq
      exact .inl ⟨p.1, rfl, rfl⟩
    · refine PySem.W.kdu_collect (A := X.A.in1) (PySem.W.kdl_dict (knd := mixKind X.prog X.w) (kvs := vs) (ep := ep) lo) (I.ok.hd hc) hat (by rw [← rel.length]; exact z) fun h' tk acc hk ha => k h' tk acc.toList hk ?_
      rw [List.map_map]
      show Vals (es.map fun p => kV p.1) _
      rw [ek]
      exact keys_at (by rw [Array.length_toList]; exact ha.1) fun j v e => ha.2 j v (by rw [← Array.getElem?_toList]; exact e)
  · obtain ⟨z, hs, ks, pr, o, en, ep, ho, hx, hdt, he, hn⟩ := (show ObjOk X.prog X.w H s.heap a (.dT es) from r.ok I.hok)
    have l1 : en.size = ks.length := size_of_entries he
    have l2 : es.length = ks.length := Paired.length pr
    have ik : IsKeys H es (ks.map fun x => x.2.1) := isKeys_of pr
    have go : ∀ {es : List (List Key × V)} {bs : List Addr}, IsKeys H es bs → ((bs.zip es).map fun q => kT q.2.1) = es.map (fun p => kT p.1) ∧ (bs.zip es).map (·.1) = bs ∧ ∀ q ∈ bs.zip es, H q.1 = some (.tup (q.2.1.map kV)) := fun {es bs} h => by
      unfold IsKeys at h
      induction h with
      | nil => exact ⟨rfl, rfl, fun q hq => by simp at hq⟩
      | cons p _ ih =>
        refine ⟨by rw [List.zip_cons_cons, List.map_cons, List.map_cons, ih.1], by rw [List.zip_cons_cons, List.map_cons, ih.2.1], fun q hq => ?_⟩
        rw [List.zip_cons_cons] at hq; rcases List.mem_cons.mp hq with rfl | hq
        · exact p
        · exact ih.2.2 q hq
    obtain ⟨g1, g2, g3⟩ := go ik
    refine ⟨((ks.map fun x => x.2.1).zip es).map fun q => (.ref q.1, kT q.2.1), by rw [List.map_map]; exact g1, fun q hq => ?_, fun E R k => ?_⟩
    · obtain ⟨p, hp, rfl⟩ := List.mem_map.mp hq
      exact .inr ⟨p.1, p.2.1, rfl, rfl, g3 p hp⟩
    · refine PySem.W.kdu_collect (A := X.A.in1) (kdl_raw hs hx hdt) (I.ok.hd hc) ho (by omega) fun h' tk acc hk it => k h' tk acc.toList hk ?_
      have e1 : ((((ks.map fun x => x.2.1).zip es).map fun q => ((.ref q.1 : V), kT q.2.1)).map (·.1)) = (ks.map fun x => x.2.1).map V.ref := by
        rw [List.map_map]
        conv => rhs; rw [← g2]
        rw [List.map_map]; rfl
      rw [e1]
      have e2 : acc.toList = (ks.map fun x => x.2.1).map Value.ref := by
        have hl : acc.toList.length = ks.length := by rw [Array.length_toList, it.1]; exact l1
        refine List.ext_getElem (by rw [hl, List.length_map, List.length_map]) fun j j1 j2 => ?_
        obtain ⟨e, he1, hv⟩ := it.2 j acc.toList[j] (by rw [← Array.getElem?_toList]; exact List.getElem?_eq_getElem j1)
        have qe := entry_at he j
        rw [he1, List.getElem?_eq_getElem (by omega)] at qe
        have e3 := Option.some.inj qe
        rw [hv, e3, List.getElem_map, List.getElem_map]
        rfl
      rw [e2]
      exact vals_refs _
def rSortDic : List V → Hp → VK → Prop := fun xs H Q => ∃ a ds, xs = [.ref a] ∧ KeysAt H a ds ∧ okSort ds = true ∧ ∀ p vs, H p = none → Paired (KeyV H) vs (sortD ds) → Q (.ref p) (upd H p (.lst vs))
theorem paired_of {l : List (V × D)} (h : ∀ q ∈ l, KeyV H q.1 q.2) : Paired (KeyV H) (l.map (·.1)) (l.map (·.2)) := by
  induction l with
  | nil => exact .nil
  | cons p r ih => exact .cons (h p List.mem_cons_self) (ih fun q hq => h q (List.mem_cons_of_mem _ hq))
theorem call_sortDic (hc : X.calm = true) (hu : X.A.units + 66 < cLine) : CallR X (.builtin "sorted") rSortDic := by
  intro pins s σ H xs us Q I r h; obtain ⟨a, ds, rfl, ka, ok, q⟩ := h
  rw [Vals.ref1 r]
  obtain ⟨l, rfl, kv, col⟩ := keys_col hc I ka
  refine sorted_col hu I (fun p hp => ?_) ok col fun p hp => q p _ hp ?_
  · have h3 := List.all_eq_true.mp (okSort_inv ok).2.2.1 p.2 (List.mem_map_of_mem hp)
    exact Ow.dp.1 ((kv p hp).ow (K := X.K) (b := 0) (O := fun _ => False)) (by decide) (SeqAt.canLay_of_shaped h3)
  · rw [← sort_snd]
    exact paired_of fun p hp => kv p (List.mem_mergeSort.mp hp)
end
end Xa
/-! XE7: sorted(d), list(d), sum(l); l[i] = x; a slot of another mode. -/
namespace Xa
open PySem PySem.Spec
open PyProof.Rows L2
section
variable {X : Cx} {mu : List Md} {rm : Rm} {a e ke : Expr} {f1 fk fv : DE} {pos p p2 ps : Pos}
def fSortedD (x : D) : Option D := match x with
  | .dic kvs => if okSort (kvs.map (·.1)) = true then some (.lst (sortD (kvs.map (·.1)))) else none
  | _ => none
theorem ev_sortedD (hc : X.calm = true) (hu : X.A.units + 66 < cLine) (hg : Gl X "sorted") (hm : X.mg "sorted" = none) (ha : EV X mu a .vw f1) (he : starEach [a] X.env = (false, eval a X.env) :: starEach [] X.env := by rfl) (hpl : (backTo pos (starEach [] X.env)).any (·.1) = false := by rfl) : EV X mu (.Call (.Name "sorted" p) [a] [] pos) (.val (.own .frz)) (d1 fSortedD f1) :=
  ev_call1 (call_sortDic hc hu) (by
    intro b O H x dx d Q vb ob hb dm hx e q
    unfold fSortedD at e
    split at e
    · split at e <;> cases e
      rename_i kvs ok
      obtain ⟨a, rfl, ka⟩ := hx.keysAt
      exact ⟨a, _, rfl, ka, ok, fun l vs hl t => q _ _ [l] (grow_upd hl) (fun a z => (List.mem_singleton.mp z) ▸ hl) (by simp) (new_lstO ob hb hl (keys_owl t))⟩
    · cases e) hg hm (by decide +kernel) ha (by decide) (by decide) he hpl
def rListDic : List V → Hp → VK → Prop := fun xs H Q => ∃ a ds, xs = [.ref a] ∧ KeysAt H a ds ∧ ∀ p vs, H p = none → Paired (KeyV H) vs ds → Q (.ref p) (upd H p (.lst vs))
theorem call_listDic (hc : X.calm = true) : CallR X (.type "list") rListDic := by
  intro pins s σ H xs us Q I r h; obtain ⟨a, ds, rfl, ⟨es, ra, rfl⟩ | ⟨es, ra, rfl⟩, q⟩ := h
  · refine call_listD hc pins s σ H _ us Q I r ⟨a, es, rfl, ra, fun p hp => q p _ hp ?_⟩
    clear q ra r
    induction es with
    | nil => exact .nil
    | cons x t ih => exact .cons (.inl ⟨x.1, rfl, rfl⟩) ih
  · refine call_list_dT hc pins s σ H _ us Q I r ⟨a, es, rfl, ra, fun p bs hp ik => q p _ hp ?_⟩
    unfold IsKeys at ik
    clear q ra r
    induction ik with
    | nil => exact .nil
    | cons x _ ih => exact .cons (.inr ⟨_, _, rfl, rfl, x⟩) ih
def fListD (x : D) : Option D := match x with
  | .dic kvs => some (.lst (kvs.map (·.1)))
  | _ => none
theorem ev_listD (hc : X.calm = true) (hg : Gl X "list") (hm : X.mg "list" = none) (ha : EV X mu a .vw f1) (he : starEach [a] X.env = (false, eval a X.env) :: starEach [] X.env := by rfl) (hpl : (backTo pos (starEach [] X.env)).any (·.1) = false := by rfl) : EV X mu (.Call (.Name "list" p) [a] [] pos) (.val (.own .frz)) (d1 fListD f1) :=
  ev_ty1 (call_listDic hc) (by
    intro b O H x dx d Q vb ob hb dm hx e q
    unfold fListD at e
    split at e <;> cases e
    obtain ⟨a, rfl, ka⟩ := hx.keysAt
    exact ⟨a, _, rfl, ka, fun l vs hl t => q _ _ [l] (grow_upd hl) (fun a z => (List.mem_singleton.mp z) ▸ hl) (by simp) (new_lstO ob hb hl (keys_owl t))⟩) hg hm (by decide +kernel) ha (by decide) (by decide) he hpl
def intsOf : List D → Option (List Int)
  | [] => some []
  | .int i :: r => (intsOf r).map (i :: ·)
  | _ :: _ => none
theorem intsOf_map (ns : List Int) : intsOf (ns.map D.int) = some ns := by
  induction ns with
  | nil => rfl
  | cons n r ih => rw [List.map_cons]; unfold intsOf; rw [ih]; rfl
theorem owl_intsOf {K : PySem.W.Frag} {b : Addr} {O : Addr → Prop} {H : Hp} : ∀ {ds : List D} {vs : List V} {A : List Addr} {ns : List Int}, OwL K b O H .frz vs ds A → intsOf ds = some ns → vs = ns.map V.int
  | [], vs, A, ns, h, e => by cases h; cases e; rfl
  | d :: r, vs, A, ns, h, e => by
    obtain ⟨v, vs', A1, A2, rfl, _, h1, h2⟩ := h.consd_inv
    cases d with
    | int i =>
      unfold intsOf at e
      cases e2 : intsOf r with
      | none => rw [e2] at e; cases e
      | some m =>
        rw [e2] at e; cases e
        have ev : v = .int i := by cases h1; rfl
        rw [ev, owl_intsOf h2 e2]; rfl
    | _ => cases e
def fSum (x : D) : Option D := match x with
  | .lst ds => (intsOf ds).map fun ns => .int ns.sum
  | _ => none
theorem ev_sum (hc : X.calm = true) (hg : Gl X "sum") (hm : X.mg "sum" = none) (ha : EV X mu a .vw f1) (he : starEach [a] X.env = (false, eval a X.env) :: starEach [] X.env := by rfl) (hpl : (backTo pos (starEach [] X.env)).any (·.1) = false := by rfl) : EV X mu (.Call (.Name "sum" p) [a] [] pos) fz (d1 fSum f1) :=
  ev_call1 (cr_sum hc) (by
    intro b O H x dx d Q vb ob hb dm hx e q
    unfold fSum at e
    split at e
    · rename_i ds
      cases e1 : intsOf ds with
      | none => rw [e1] at e; cases e
      | some ns =>
        rw [e1] at e; cases e
        obtain ⟨p, vs, rfl, hs, t⟩ := hx.lst_inv
        have ev := owl_intsOf t e1
        subst ev
        exact ⟨p, ns, rfl, .inl hs, q _ _ [] (fun _ _ h => h) (fun a z => nomatch z) List.nodup_nil Rw.int⟩
    · cases e) hg hm (by decide +kernel) ha (by decide) (by decide) he hpl
end
/-! a slot of another mode -/
section
variable {K : PySem.W.Frag} {g : Bg} {O : Addr → Prop} {mu mu' : List Md} {G G' : Gam} {σ : L2.St} {H : Hp} {As : Nat → List Addr}
theorem FrA.mode (F : FrA K g O mu G σ H As) (hl : G'.length = G.length) (h : ∀ (k : Nat) (d : D), G'[k]? = some (some d) → G[k]? = some (some d) ∧ mu'[k]? = mu[k]?) : FrA K g O mu' G' σ H As :=
  ⟨F.ok, F.sub, F.dom, F.ext0, hl.trans F.len, F.nd, F.dj, F.ss, fun i d e => by
    obtain ⟨h1, h2⟩ := h i d e
    obtain ⟨m, v, a1, a2, a3⟩ := F.sl i d h1
    exact ⟨m, v, h2.trans a1, a2, a3⟩⟩
theorem set_forget {α : Type} (l : List (Option α)) {i j : Nat} (hij : i ≠ j) (a b : Option α) : ((((l.set i none).set j none).set i a).set j b) = (l.set i a).set j b := by
  apply List.ext_getElem?
  intro k
  by_cases h1 : k = j
  · subst h1
    simp [List.getElem?_set]
  · by_cases h2 : k = i
    · subst h2
      rw [List.getElem?_set_ne (Ne.symm h1), List.getElem?_set_ne (Ne.symm h1)]
      simp [List.getElem?_set]
    · rw [List.getElem?_set_ne (Ne.symm h1), List.getElem?_set_ne (Ne.symm h2), List.getElem?_set_ne (Ne.symm h1), List.getElem?_set_ne (Ne.symm h2), List.getElem?_set_ne (Ne.symm h1), List.getElem?_set_ne (Ne.symm h2)]
end
section
variable {X : Cx} {mu mu' : List Md} {rm : Rm} {a b : Expr} {rest : List Stmt} {fs : DA} {s2 : DS} {pos px py pt p2 : Pos}
/-- what comes behind it returns -/
def sThenR (s1 s2 : DS) : DS := fun G B => (s1 G B).bind fun o => match o with
  | .nx G' B' => (s2 G' B').bind fun o => match o with
    | .rt d B => some (.rt d B)
    | _ => none
  | _ => none
theorem ess_parM {i j : Nat} {x y : Str} {kt k2 : _} {m1 m2 : Md} (hmu : mu' = (mu.set i m1).set j m2) (hc : X.calm = true) (hN : X.N.Nodup) (hi : X.N[i]? = some x) (hj : X.N[j]? = some y) (hij : i ≠ j) (hx : X.env.scope.names.lookup x = some .local) (hy : X.env.scope.names.lookup y = some .local) (ha : AV X mu [a, b] [.val m1, .val m2] fs)
    (hm : [i, j].map (fun i => mu'[i]?) = [some m1, some m2]) (hw : swappedStores [.Tuple [.Name x px, .Name y py] kt pt] (.Tuple [a, b] k2 p2) X.env = pure (some [x, y])) (h2 : ESs X mu' rm rest s2) (hs : swapsWithSole [.Tuple [.Name x px, .Name y py] kt pt] (.Tuple [a, b] k2 p2) pos.line X.env = pure false := by rfl) :
    ESs X mu rm (.Assign [.Tuple [.Name x px, .Name y py] kt pt] (.Tuple [a, b] k2 p2) pos :: rest) (sThenR (sSets [i, j] fs) s2) := pss_imp (pss_cons (ps_par hc hN hi hj hij hx hy ha hw hs) h2) fun D σ H ⟨g, O, G, B, oc, F, hb, e, q⟩ => by
  unfold sThenR sSets at e
  cases e1 : fs G B with
  | none => rw [e1] at e; cases e
  | some p0 =>
    obtain ⟨ds, B1⟩ := p0
    rw [e1] at e
    simp only [Option.map_some, Option.bind_some] at e
    cases e2 : s2 (setG G [i, j] ds) B1 with
    | none => rw [e2] at e; cases e
    | some o2 =>
      rw [e2] at e
      simp only [Option.bind_some] at e
      cases o2 with
      | nx G' B' => cases e
      | bk G' B' => cases e
      | ct G' B' => cases e
      | rt d B' =>
        cases e
        refine ⟨g, O, G, B, ds, B1, F, hb, e1, fun vs H' A Gt => ?_⟩
        obtain ⟨As, FA⟩ := F.told
        have FA1 := FA.step hb Gt.ext Gt.fresh (fun a z => (Gt.rw_.dom a z).2) Gt.bag.ne
        have FA2 : FrA X.K g (orA O A) mu' ((G.set i none).set j none) σ H' As := FA1.mode (by simp) fun k d ek => by
          by_cases h1 : k = j
          · subst h1
            rw [List.getElem?_set] at ek
            simp at ek
          · rw [List.getElem?_set_ne (Ne.symm h1)] at ek
            by_cases h2 : k = i
            · subst h2
              rw [List.getElem?_set] at ek
              simp at ek
            · rw [List.getElem?_set_ne (Ne.symm h2)] at ek
              exact ⟨ek, by rw [hmu, List.getElem?_set_ne (Ne.symm h1), List.getElem?_set_ne (Ne.symm h2)]⟩
        obtain ⟨At, F3⟩ := FA2.puts [i, j] (ms := [m1, m2]) Gt.rw_ Gt.nd (fun j a z y => F.dom a (FA.ss j a y).1 (Gt.fresh a z)) (fun a z => ⟨F.not0 (Gt.fresh a z), F.fresh0 hb (Gt.fresh a z)⟩) hm
        cases Gt.rw_ with
        | @cons _ _ v1 vs1 d1 ds1 A1 A2 r1 t =>
          cases t with
          | @cons _ _ v2 vs2 d2 ds2 A3 A4 r2 t =>
            cases t
            have F4 := F3.fr
            have es : setG ((G.set i none).set j none) [i, j] [d1, d2] = setG G [i, j] [d1, d2] := set_forget G hij _ _
            rw [es] at F4
            exact ⟨_, _, rfl, g, _, _, B1, .rt d B', F4, Gt.bag, e2, q⟩
end
end Xa
/-! XE8: walks of zip(x, y) and of enumerate(x). -/
namespace Xa
open PySem PySem.Spec PyProof.Rows L2 RZ
def zipD (xs ys : List D) : List D := List.zipWith (fun x y => D.tup [x, y]) xs ys
def enumD (xs : List D) : List D := xs.zipIdx.map fun p => D.tup [.int (p.2 : Nat), p.1]
def zipL : List D → Option (List D)
  | [.lst xs, .lst ys] => some (zipD xs ys)
  | [.tup xs, .tup ys] => some (zipD xs ys)
  | _ => none
def enumL : List D → Option (List D)
  | [.lst xs] => some (enumD xs)
  | _ => none
/-- a walk over what op makes of the arguments -/
def dVia (op : List D → Option (List D)) (fs : DA) : DA := fun G B => (fs G B).bind fun p => (op p.1).map fun ds => (ds, p.2)
section
variable {K : PySem.W.Frag} {b a c : Addr} {O : Addr → Prop} {H : Hp} {vb : BO}
theorem pairOw {T : Addr} {v1 v2 : V} {d1 d2 : D} (ob : O b) (hb : H b = some vb.1) (hT : H T = none) (h1 : Ow K b O H .frz v1 d1 []) (h2 : Ow K b O H .frz v2 d2 []) :
    Grow H (upd H T (.tup [v1, v2])) ∧ Ow K b O (upd H T (.tup [v1, v2])) .frz (.ref T) (.tup [d1, d2]) [] :=
  ⟨grow_upd hT, .tup (by decide) upd_same ((OwL.consN h1 (OwL.consN h2 .nil)).grow ob hb (grow_upd hT) (by simp) fun _ _ => Iff.rfl)⟩
theorem yields_zip {xs ys : List V} {ds es : List D} (ob : O b) (hb : H b = some vb.1) (h1 : SqL K H a xs) (t1 : OwL K b O H .frz xs ds []) (h2 : SqL K H c ys) (t2 : OwL K b O H .frz ys es []) : Yields K b O (Itz K a c) (zipD ds es) H := by
  refine ⟨fun i d e => ?_, ⟨xs, ys, h1, h2, ?_⟩⟩
  · obtain ⟨d1, d2, e1, e2, rfl⟩ := List.getElem?_zipWith_eq_some.mp e
    obtain ⟨v1, a1, b1⟩ := t1.get e1
    obtain ⟨v2, a2, b2⟩ := t2.get e2
    refine ⟨⟨xs, ys, v1, v2, h1, h2, a1, a2⟩, fun x H' y => ?_⟩
    obtain ⟨T, x1, x2, rfl, hT, rfl, z1, z2⟩ := y
    cases (z1 xs h1).symm.trans a1
    cases (z2 ys h2).symm.trans a2
    exact pairOw ob hb hT b1 b2
  · have l1 := t1.len
    have l2 := t2.len
    simp only [zipD, List.length_zipWith]
    omega
theorem yields_zipT {xs ys : List V} {ds es : List D} (ob : O b) (hb : H b = some vb.1) (h1 : SqT K H a xs) (t1 : OwL K b O H .frz xs ds []) (h2 : SqT K H c ys) (t2 : OwL K b O H .frz ys es []) : Yields K b O (ItzT K a c) (zipD ds es) H := by
  refine ⟨fun i d e => ?_, ⟨xs, ys, h1, h2, ?_⟩⟩
  · obtain ⟨d1, d2, e1, e2, rfl⟩ := List.getElem?_zipWith_eq_some.mp e
    obtain ⟨v1, a1, b1⟩ := t1.get e1
    obtain ⟨v2, a2, b2⟩ := t2.get e2
    refine ⟨⟨xs, ys, v1, v2, h1, h2, a1, a2⟩, fun x H' y => ?_⟩
    obtain ⟨T, x1, x2, rfl, hT, rfl, z1, z2⟩ := y
    cases (z1 xs h1).symm.trans a1
    cases (z2 ys h2).symm.trans a2
    exact pairOw ob hb hT b1 b2
  · have l1 := t1.len
    have l2 := t2.len
    simp only [zipD, List.length_zipWith]
    omega
theorem yields_enum {xs : List V} {ds : List D} (ob : O b) (hb : H b = some vb.1) (h1 : SqL K H a xs) (t1 : OwL K b O H .frz xs ds []) : Yields K b O (Ite K a) (enumD ds) H := by
  refine ⟨fun i d e => ?_, ⟨xs, h1, ?_⟩⟩
  · unfold enumD at e
    rw [List.getElem?_map, List.getElem?_zipIdx] at e
    cases e1 : ds[i]? with
    | none => rw [e1] at e; cases e
    | some d1 =>
      rw [e1] at e
      cases e
      obtain ⟨v1, a1, b1⟩ := t1.get e1
      refine ⟨⟨xs, v1, h1, a1⟩, fun x H' y => ?_⟩
      obtain ⟨T, x1, rfl, hT, rfl, z1⟩ := y
      cases (z1 xs h1).symm.trans a1
      have := pairOw (v1 := V.int (i : Nat)) (d1 := D.int (i : Nat)) ob hb hT (.int (by decide)) b1
      simpa using this
  · have l1 := t1.len
    simp only [enumD, List.length_map, List.length_zipIdx]
    omega
end
/-- a walk whose items hold wherever frozen things hold -/
def Holds (K : PySem.W.Frag) (b : Addr) (O : Addr → Prop) (J : It) (ds : List D) (H1 : Hp) : Prop := ∀ O' H', (∀ {v d}, Ow K b O H1 .frz v d [] → Ow K b O' H' .frz v d []) → (∃ vb : BO, H' b = some vb.1) → O' b → Yields K b O' J ds H'
section
variable {K : PySem.W.Frag} {g : Bg} {O : Addr → Prop} {J : It} {ds : List D} {H1 : Hp} {B' : Bag}
theorem Holds.toC (h : Holds K g.b O J ds H1) (hb : BagAt g.b g.l H1 B') (ob : O g.b) : WalkC K g.b O J ds H1 := fun O' H' x ho vb =>
  h O' H' (fun z => (Ow.off (hb.off ob x) ho).1 z (by simp)) vb ((ho g.b hb.ne).mpr ob)
theorem Holds.toS (h : Holds K g.b O J ds H1) : WalkS K g.b O J ds H1 := fun O' H' x vb ob => h O' H' (fun z => (Ow.through x).1 z rfl) vb ob
theorem holds_zipL {a c : Addr} {xs ys : List D} (h1 : Ow K g.b O H1 .frz (.ref a) (.lst xs) []) (h2 : Ow K g.b O H1 .frz (.ref c) (.lst ys) []) : Holds K g.b O (Itz K a c) (zipD xs ys) H1 := fun O' H' t ⟨vb, hb⟩ ob => by
  obtain ⟨a', vs, e, r, t1⟩ := (Vw.of (t h1)).lst_inv
  obtain ⟨c', us, e', r', t2⟩ := (Vw.of (t h2)).lst_inv
  cases e; cases e'
  exact yields_zip ob hb (.inl r) t1 (.inl r') t2
theorem holds_zipT {a c : Addr} {xs ys : List D} (h1 : Ow K g.b O H1 .frz (.ref a) (.tup xs) []) (h2 : Ow K g.b O H1 .frz (.ref c) (.tup ys) []) : Holds K g.b O (ItzT K a c) (zipD xs ys) H1 := fun O' H' t ⟨vb, hb⟩ ob => by
  obtain ⟨a', vs, e, r, t1⟩ := (t h1).tupF_inv
  obtain ⟨c', us, e', r', t2⟩ := (t h2).tupF_inv
  cases e; cases e'
  exact yields_zipT ob hb (.inl (.inl r)) t1 (.inl (.inl r')) t2
theorem holds_enum {a : Addr} {xs : List D} (h1 : Ow K g.b O H1 .frz (.ref a) (.lst xs) []) : Holds K g.b O (Ite K a) (enumD xs) H1 := fun O' H' t ⟨vb, hb⟩ ob => by
  obtain ⟨a', vs, e, r, t1⟩ := (Vw.of (t h1)).lst_inv
  cases e
  exact yields_enum ob hb (.inl r) t1
end
section
variable {X : Cx} {mu : List Md} {wk : PySem.W.Frag → Addr → (Addr → Prop) → It → List D → Hp → Prop}
/-- what a walk asks of a frame -/
def Wk (X : Cx) (wk : PySem.W.Frag → Addr → (Addr → Prop) → It → List D → Hp → Prop) : Prop := ∀ {g : Bg} {O : Addr → Prop} {J : It} {ds : List D} {H1 : Hp} {B' : Bag}, Holds X.K g.b O J ds H1 → BagAt g.b g.l H1 B' → O g.b → wk X.K g.b O J ds H1
theorem wkC : Wk X WalkC := fun h hb ob => h.toC hb ob
theorem wkS : Wk X WalkS := fun h _ _ => h.toS
theorem frozen2 {K : PySem.W.Frag} {b : Addr} {O : Addr → Prop} {H : Hp} {vs : List V} {d1 d2 : D} {A : List Addr} (h : RwL K b (orA O A) H [fz, fz] vs [d1, d2] A) : ∃ v1 v2, vs = [v1, v2] ∧ Ow K b O H .frz v1 d1 [] ∧ Ow K b O H .frz v2 d2 [] := by
  have hA : A = [] := RwL.noA (ms := [.frz, .frz]) h (by simp)
  subst hA
  rw [orN] at h
  generalize hA : ([] : List Addr) = A at h
  cases h with
  | @cons _ _ v1 vs d1 ds A1 A2 r1 t =>
    cases t with
    | @cons _ _ v2 vs d2 ds A3 A4 r2 t =>
      cases t
      obtain ⟨e1, e2⟩ := List.append_eq_nil_iff.mp hA.symm
      obtain ⟨e2, -⟩ := List.append_eq_nil_iff.mp e2
      subst e1 e2
      exact ⟨_, _, rfl, r1, r2⟩
theorem frozen1 {K : PySem.W.Frag} {b : Addr} {O : Addr → Prop} {H : Hp} {vs : List V} {d1 : D} {A : List Addr} (h : RwL K b (orA O A) H [fz] vs [d1] A) : ∃ v1, vs = [v1] ∧ Ow K b O H .frz v1 d1 [] := by
  have hA : A = [] := RwL.noA (ms := [.frz]) h (by simp)
  subst hA
  rw [orN] at h
  generalize hA : ([] : List Addr) = A at h
  cases h with
  | @cons _ _ v1 vs d1 ds A1 A2 r1 t =>
    cases t
    obtain ⟨e1, e2⟩ := List.append_eq_nil_iff.mp hA.symm
    subst e1
    exact ⟨_, rfl, r1⟩
theorem zip_imp (hw : Wk X wk) {fs : DA} (σ : L2.St) (H : Hp) (R : It → Hp → Prop) (h : tI wk X.K mu (dVia zipL fs) σ H R) : iZipA X.K (tL X.K mu [fz, fz] fs) σ H R := by
  obtain ⟨g, O, G, B, ds, B', F, hb, e, q⟩ := h
  unfold dVia at e
  cases e1 : fs G B with
  | none => rw [e1] at e; cases e
  | some p =>
    obtain ⟨l, B1⟩ := p
    rw [e1, Option.bind_some] at e
    cases e2 : zipL l with
    | none => simp [e2] at e
    | some ds' =>
      simp only [e2, Option.map_some] at e
      cases e
      refine ⟨g, O, G, B, l, _, F, hb, e1, fun vs H1 A Gt => ?_⟩
      unfold zipL at e2
      split at e2 <;> cases e2
      · obtain ⟨v1, v2, rfl, o1, o2⟩ := frozen2 Gt.rw_
        obtain ⟨a, xs, rfl, r1, _⟩ := (Vw.of o1).lst_inv
        obtain ⟨c, ys, rfl, r2, _⟩ := (Vw.of o2).lst_inv
        exact ⟨a, c, xs, ys, rfl, .inl ⟨.inl r1, .inl r2, q _ H1 Gt.ext Gt.bag (hw (holds_zipL o1 o2) Gt.bag F.ob)⟩⟩
      · obtain ⟨v1, v2, rfl, o1, o2⟩ := frozen2 Gt.rw_
        obtain ⟨a, xs, rfl, r1, _⟩ := o1.tupF_inv
        obtain ⟨c, ys, rfl, r2, _⟩ := o2.tupF_inv
        exact ⟨a, c, xs, ys, rfl, .inr ⟨.inl (.inl r1), .inl (.inl r2), q _ H1 Gt.ext Gt.bag (hw (holds_zipT o1 o2) Gt.bag F.ob)⟩⟩
theorem enum_imp (hw : Wk X wk) {fs : DA} (σ : L2.St) (H : Hp) (R : It → Hp → Prop) (h : tI wk X.K mu (dVia enumL fs) σ H R) : iEnum X.K (tL X.K mu [fz] fs) σ H R := by
  obtain ⟨g, O, G, B, ds, B', F, hb, e, q⟩ := h
  unfold dVia at e
  cases e1 : fs G B with
  | none => rw [e1] at e; cases e
  | some p =>
    obtain ⟨l, B1⟩ := p
    rw [e1, Option.bind_some] at e
    cases e2 : enumL l with
    | none => simp [e2] at e
    | some ds' =>
      simp only [e2, Option.map_some] at e
      cases e
      refine ⟨g, O, G, B, l, _, F, hb, e1, fun vs H1 A Gt => ?_⟩
      unfold enumL at e2
      split at e2 <;> cases e2
      obtain ⟨v1, rfl, o1⟩ := frozen1 Gt.rw_
      obtain ⟨a, xs, rfl, r1, _⟩ := (Vw.of o1).lst_inv
      exact ⟨a, xs, rfl, .inl r1, q _ H1 Gt.ext Gt.bag (hw (holds_enum o1) Gt.bag F.ob)⟩
variable {elts : List Expr} {kk : Nat} {tpos p pos : Pos} {e e2 : Expr} {fs : DA}
theorem eic_zip (hg : Gl X "zip") (hm : X.mg "zip" = none) (h : AV X mu [e, e2] [fz, fz] fs)
    (hs : starEach [e, e2] X.env = (false, eval e X.env) :: starEach [e2] X.env := by rfl) (hpl : (backTo pos (starEach [e2] X.env)).any (·.1) = false := by rfl) : EIC X mu (.Tuple elts kk tpos) (.Call (.Name "zip" p) [e, e2] [] pos) (dVia zipL fs) :=
  pi_imp (pi_zipA hg hm h hs hpl) (zip_imp wkC)
theorem eis_zip (hg : Gl X "zip") (hm : X.mg "zip" = none) (h : AV X mu [e, e2] [fz, fz] fs)
    (hs : starEach [e, e2] X.env = (false, eval e X.env) :: starEach [e2] X.env := by rfl) (hpl : (backTo pos (starEach [e2] X.env)).any (·.1) = false := by rfl) : EIS X mu (.Tuple elts kk tpos) (.Call (.Name "zip" p) [e, e2] [] pos) (dVia zipL fs) :=
  pi_imp (pi_zipA hg hm h hs hpl) (zip_imp wkS)
theorem eic_enum (hg : Gl X "enumerate") (hm : X.mg "enumerate" = none) (h : AV X mu [e] [fz] fs) (hs : starEach [e] X.env = [(false, eval e X.env)] := by rfl) : EIC X mu (.Tuple elts kk tpos) (.Call (.Name "enumerate" p) [e] [] pos) (dVia enumL fs) :=
  pi_imp (pi_enum hg hm h hs) (enum_imp wkC)
theorem eis_enum (hg : Gl X "enumerate") (hm : X.mg "enumerate" = none) (h : AV X mu [e] [fz] fs) (hs : starEach [e] X.env = [(false, eval e X.env)] := by rfl) : EIS X mu (.Tuple elts kk tpos) (.Call (.Name "enumerate" p) [e] [] pos) (dVia enumL fs) :=
  pi_imp (pi_enum hg hm h hs) (enum_imp wkS)
end
end Xa
/-! XE9: xs.extend(ys), ys a list that is read alone. -/
namespace Xa
open PySem PySem.Spec
open PyProof.Rows L2
section
variable {X : Cx}
/-- one list behind the other -/
def rMore : V → List V → Hp → VK → Prop := fun x vs H Q => ∃ (l b : Addr) (xs zs : List V), x = .ref l ∧ vs = [.ref b] ∧ H l = some (.lst xs) ∧ Rd H b (.lst zs) ∧ xs.length + zs.length ≤ sizeLine ∧ Q .non (upd H l (.lst (xs ++ zs)))
theorem mt_more : MtM X "list.extend" rMore := fun pins s σ H x vs v us Q I rx rv ⟨l, b, xs, zs, ex, ev, hl, hb, room, q⟩ => by
  subst ex ev
  cases rx
  obtain ⟨u, eu, ru⟩ := rv.one
  subst eu
  cases ru
  obtain ⟨_, i1, n1, r1, s1, e1⟩ := I.lstM hl
  obtain ⟨_, i2, n2, r2, e2⟩ := hb.ok I.hok
  have w1 := r1.length
  have w2 := r2.length
  have few : i1.toArray.size + i2.toArray.size ≤ sizeLine := by simp only [List.size_toArray]; omega
  have fits : ¬ (!i1.toArray.isEmpty && Builtin.List.listTooLong (i1.toArray.size + i2.toArray.size)) = true := by
    rw [notLongL few, Bool.and_false]
    exact Bool.false_ne_true
  exact call_meets F.slot_list_extend ⟨_, e1, rfl⟩ F.entry_list_extend (F.args_list_extend_2 _ _) (AutoSeq1.list_extend_list_list_0 l i1.toArray n1 b i2.toArray n2 fits (by omega) (by omega))
    ⟨e1, e2, .non, _, I.lset (its' := i1 ++ i2) hl e1 (by simp) (r1.append r2) (by simpa using room), rfl, q⟩
def mExtend : List D → List D → Option (List D × D) := fun ds es => match es with
  | [.lst zs] => if ds.length + zs.length ≤ sizeLine then some (ds ++ zs, .non) else none
  | _ => none
theorem md_extend : MtD X rMore mExtend := by
  intro b O H a vs ws ds es ds' d ha t tw e
  unfold mExtend at e
  split at e
  · split at e <;> cases e
    rename_i hz
    obtain ⟨w, ws', A1, A2, rfl, hA, p, q⟩ := tw.consd_inv
    cases q
    have := Ow.noA.1 p (.inr (.inl rfl))
    subst this
    obtain ⟨c, us, rfl, r, t2⟩ := (Vw.of p).lst_inv
    exact ⟨vs ++ us, .non, t.appN t2, .non (by decide), fun Q h => ⟨a, c, vs, us, rfl, rfl, ha, r, by rw [t.len, t2.len]; exact hz, h⟩⟩
  · cases e
end
end Xa
/-! XE10: xs[::-1]. -/
namespace Xa
open PySem PySem.Spec
open PyProof.Rows L2
section
variable {X : Cx} {mu : List Md} {a : Expr} {f1 : DE} {pos p1 p2 p3 : Pos} {k : Nat}
def rBack (K : PySem.W.Frag) : V → Hp → VK → Prop := fun x H Q => ∃ a xs, x = .ref a ∧ SqL K H a xs ∧ ∀ p, H p = none → Q (.ref p) (upd H p (.lst xs.reverse))
def fBack (x : D) : Option D := match x with | .lst ds => some (.lst ds.reverse) | _ => none
theorem ev_back (ha : EV X mu a .vw f1) : EV X mu (.Subscript a (.Slice none none (some (.UnaryOp .USub (.Constant (.int 1) k p1) p2)) p3) pos) (.val (.own .frz)) (d1 fBack f1) :=
  ev_one (r := rBack X.K) (pe_revL ha) (by
    intro b O H x dx d Q vb ob hb dm hx e q
    unfold fBack at e
    split at e <;> cases e
    obtain ⟨p, vs, rfl, hs, t⟩ := hx.lst_inv
    exact ⟨p, vs, rfl, .inl hs, fun l hl => q _ _ [l] (grow_upd hl) (fun a z => by rw [List.mem_singleton.mp z]; exact hl) (List.nodup_cons.mpr ⟨(fun z => nomatch z), List.nodup_nil⟩) (new_lstO ob hb hl t.rev)⟩)
end
end Xa
/-! XE11: a built-in class by its name. -/
namespace Xa
open PySem PySem.Spec
open PyProof.Rows L2
section
variable {X : Cx} {mu : List Md} {a : Expr} {f1 : DE} {pos p q : Pos}
theorem pe_cls {T : Str} {B : String} (hg : Gl X T) (hm : X.mg T = none) (hb : bootBuiltins T = some (.type B)) (hn : T ≠ "__name__") (hd : (T == "__debug__") = false) : PE X (.Name T q) (tC (.ty B)) :=
  ⟨fun pins s σ H Q I h => ld_blt I hg hm hb ⟨.ty B, H, I, rfl, h⟩ (hn := hn) (hd := hd)⟩
theorem ev_isiT {T : Str} {B : String} (hg : Gl X "isinstance") (hm : X.mg "isinstance" = none) (hg2 : Gl X T) (hm2 : X.mg T = none) (hb : bootBuiltins T = some (.type B)) (hn : T ≠ "__name__") (hd : (T == "__debug__") = false) (ha : EV X mu a .vw f1) (he : starEach [a, .Name T q] X.env = (false, eval a X.env) :: starEach [.Name T q] X.env := by rfl) (he2 : starEach [.Name T q] X.env = (false, eval (.Name T q) X.env) :: starEach [] X.env := by rfl)
    (hpl : (backTo pos (starEach [.Name T q] X.env)).any (·.1) = false := by rfl) : EV X mu (.Call (.Name "isinstance" p) [a, .Name T q] [] pos) fz (d1 (fIsi B) f1) := ev_isi hg hm (pe_cls hg2 hm2 hb hn hd) ha he he2 hpl
end
end Xa
/-! XS1: a set of texts, put in one by one. -/
namespace Xa
open PySem PySem.Spec
open PyProof.Rows L2
def txtE (e : Int × Value) : Str := match e.2 with
  | .str x _ => x
  | _ => ⟨#[]⟩
def GoodT (w : World) (e : Int × Value) : Prop := ∃ x tk, e.2 = Value.str x tk ∧ e.1 = hashStr w x
/-- a table that holds the texts of L -/
structure Tab (w : World) (es : Array (Int × Value)) (t : SetTable) (L : List Str) : Prop where
  good : ∀ e ∈ es.toList, GoodT w e
  perm : (es.toList.map txtE).Perm L
  nd : L.Nodup
  few : es.size < scanBound
  fits : t.fits es.size = true
  ris : Ris t.place.toList
  led : w.params.followText "set-order" = true ∨ t.led =
          true
def TSet (w : World) (h : Heap) (a : Addr) (L : List Str) : Prop := ∃ o es ep t, h.get? a = some o ∧ o.ExactSet ∧ o.data = .set es ep t ∧ Tab w es t L
section
variable {P : Program} {w : World} {es : Array (Int × Value)} {t : SetTable} {L : List Str} {x : Str} {tk : Tok}
theorem Tab.relay (T : Tab w es t L) (n : Nat) : Tab w (relayAll t es n).1 (relayAll t es n).2.1 L := by
  have pm := relayAll_perm t es n
  have sz : (relayAll t es n).1.size = es.size := by
    have := pm.length_eq
    simpa using this
  exact ⟨fun e he => T.good e (pm.mem_iff.mp he), (pm.map txtE).trans T.perm, T.nd, sz ▸ T.few, relayAll_fits t es n, relayAll_ris t es n, T.led.imp id fun z => (relayAll_led t es n).trans z⟩
theorem Tab.one (T : Tab w es t L) (hx : x ∉ L) (room : L.length + 1 < scanBound) : Tab w (layNew t es (hashStr w x) (.str x tk)).1 (layNew t es (hashStr w x) (.str x tk)).2.1 (x :: L) := by
  have pm := layNew_perm t es (hashStr w x) (.str x tk)
  rw [Array.toList_push] at pm
  have pc := pm.trans (List.perm_append_singleton _ _)
  have pk := (pc.map txtE).trans (T.perm.cons x)
  refine ⟨fun e he => ?_, pk, List.nodup_cons.mpr ⟨hx, T.nd⟩, ?_, layNew_fits t es _ _, layNew_ris t es _ _ T.ris, T.led.imp id fun z => (layNew_led t es _ _).trans z⟩
  · rcases List.mem_cons.mp (pc.mem_iff.mp he) with z | z
    · exact ⟨x, tk, by rw [z], by rw [z]⟩
    · exact T.good e z
  · have := pk.length_eq
    simp only [List.length_map, List.length_cons, Array.length_toList] at this
    omega
theorem Tab.elems (T : Tab w es t L) : ElemsOf (PySem.strKind P w) es.toList := fun e he => by
  obtain ⟨x, tk, e1, e2⟩ := T.good e he
  exact ⟨⟨x, by rw [e1]; exact strKind_is _ _ _ _, e2⟩, by rw [e1]; rfl⟩
theorem Tab.has (T : Tab w es t L) (x : Str) : x ∈ L ↔ ∃ e ∈ es.toList, (PySem.strKind P w).is x e.2 = true := by
  rw [← T.perm.mem_iff]
  constructor
  · intro z
    obtain ⟨e, he, rfl⟩ := List.mem_map.mp z
    obtain ⟨y, tk, e1, _⟩ := T.good e he
    refine ⟨e, he, ?_⟩
    unfold txtE
    rw [e1]
    exact strKind_is _ _ _ _
  · rintro ⟨e, he, q⟩
    obtain ⟨y, tk, e1, _⟩ := T.good e he
    rw [e1] at q
    rw [PySem.KeyKind.is_eq_decide (strKind_is P w y tk) x] at q
    have : x = y := of_decide_eq_true q
    exact List.mem_map.mpr ⟨e, he, by unfold txtE; rw [e1, this]⟩
end
end Xa
/-! XS2: one text more. -/
namespace Xa
open PySem PySem.Spec
open PyProof.Rows L2
/-- x behind L, where L lacks it -/
def more (L : List Str) (x : Str) : List Str := if x ∈ L then L else x :: L
section
variable {P : Program} {w : World} {A : Around} {E : Value → Shared → Prop} {s : Shared} {a : Addr} {L : List Str} {x : Str} {tk : Tok}
theorem tset_store {h : Heap} {o : Obj} {es es' : Array (Int × Value)} {ep : Nat} {t t' : SetTable} (ho : h.get? a = some o) (hex : o.ExactSet) (hd : o.data = .set es ep t) (T : Tab w es' t' L) :
    (h.update a (Obj.putSet es' t')).get? a = some { o with data := .set es' (ep + 1) t' } ∧ TSet w (h.update a (Obj.putSet es' t')) a L :=
  ⟨store_at ho hd, _, es', _, t', store_at ho hd, hex, rfl, T⟩
theorem tset_hashed {Q : Bool → Shared → Prop} (R : TSet w s.heap a L) (room : L.length + 1 < scanBound) (hQ : ∀ b h', Heap.SameBut a s.heap h' → TSet w h' a (more L x) → Q b { s with heap := h' }) :
    wpAny (model P w) A (setAddHashed a (.str x tk) ((PySem.strKind P w).hash x)) Q E s := by
  obtain ⟨o, es, ep, t, ho, hex, hd, T⟩ := R
  have key : (PySem.strKind P w).is x (.str x tk) = true := strKind_is P w x tk
  have sc : (Value.str x tk).scannable = true := rfl
  unfold setAddHashed setAddHashedIn; refine wpAny_holding (wpAny_bind (wpAny_setState_of ho hd T.fits ?_))
  dsimp only
  rw [byScan_of sc T.few (T.elems (P := P))]
  simp only [↓reduceIte]
  unfold setAddByScan
  refine wpAny_bind (wpAny_bind (wpAny_rule (wpAny_bind (wpAny_setScan_of key ho hd T.fits (T.elems (P := P)) ?_))))
  cases hfi : List.findIdx? (fun e => (PySem.strKind P w).is x e.2) es.toList with
  | some j =>
    dsimp only
    obtain ⟨hj, pj, _⟩ := List.findIdx?_eq_some_iff_getElem.mp hfi; have inL : x ∈ L := (T.has (P := P) x).mpr ⟨es.toList[j], List.getElem_mem hj, pj⟩
    refine wpAny_pure (wpAny_pure (hQ _ s.heap (Heap.SameBut.refl a s.heap) ⟨o, es, ep, t, ho, hex, hd, ?_⟩))
    rw [more, if_pos inL]
    exact T
  | none =>
    dsimp only
    have out : x ∉ L := fun z => by
      obtain ⟨e, he, q⟩ := (T.has (P := P) x).mp z
      have := List.findIdx?_eq_none_iff.mp hfi e he
      rw [q] at this
      cases this
    have T1 := T.one (tk := tk) out room
    have em : more L x = x :: L := by rw [more, if_neg out]
    rw [em] at hQ
    have gw : ∀ (b : Bool) {s₁ : Shared} {Q' : Unit → Shared → Prop}, Q' () s₁ → wpAny (model P w) A (match b with | true => rule "set.scan.the-table-gave-way" | false => pure ()) Q' E s₁ :=
      fun b _ _ q => by cases b <;> first | exact wpAny_pure q | exact wpAny_rule q
    have hh : (PySem.strKind P w).hash x = hashStr w x := rfl
    rw [hh]
    generalize layNew t es (hashStr w x) (.str x tk) = Z at T1 ⊢
    obtain ⟨es1, t1, wasDummy, gave⟩ := Z; dsimp only at T1 ⊢
    refine wpAny_bind (gw _ ?_)
    have tail : ∀ t2, Tab w es1 t2 (x :: L) → wpAny (model P w) A (storeSet a es1 t2) (fun _ s1 => wpAny (model P w) A (if (!wasDummy && t2.tooFull) = true then (do
        (match (relayAll t2 es1 (SetTable.grown es1.size)).2.2 with | true => rule "set.scan.the-table-gave-way" | false => pure ())
        storeSet a (relayAll t2 es1 (SetTable.grown
                es1.size)).1 (relayAll t2 es1 (SetTable.grown es1.size)).2.1
        pure (some true)) else pure (some true)) (fun r s' => ∃ h', r = some true ∧ s' = { s with heap := h' } ∧ Heap.SameBut a s.heap h' ∧ TSet w h' a (x :: L)) E s1) E s := fun t2 T2 => by
      refine wpAny_storeSet_of ho hd ?_ (fits_of_scanBound T2.few)
      obtain ⟨ho1, S1⟩ := tset_store ho hex hd T2
      have sb := Heap.SameBut.update s.heap a (Obj.putSet es1 t2)
      split
      · have T3 := T2.relay (SetTable.grown es1.size)
        refine wpAny_bind (gw _ (wpAny_bind (wpAny_storeSet_of ho1 rfl ?_ (fits_of_scanBound T3.few))))
        exact wpAny_pure ⟨_, rfl, rfl, sb.trans (Heap.SameBut.update _ a _), (tset_store ho1 hex rfl T3).2⟩
      · exact wpAny_pure ⟨_, rfl, rfl, sb, S1⟩
    split
    · refine wpAny_bind ?_
      rw [hashByValue_scannable 8 sc]
      refine wpAny_pure ?_
      refine wpAny_bind (wpAny_mono (tail _ ?_) (fun _ s1 h1 => ?_) fun _ _ z => z)
      · first | exact T1 | (split <;> first | exact T1 | exact ⟨T1.good, T1.perm, T1.nd, T1.few, SetTable.fits_plain_off T1.fits, T1.ris, T1.led⟩)
      · refine wpAny_mono h1 (fun r s' ⟨h', er, es', sb, S⟩ => ?_) fun _ _ z => z
        subst er es'
        exact wpAny_pure (hQ _ h' sb S)
    · refine wpAny_bind (wpAny_pure ?_); simp only [↓reduceIte]
      refine wpAny_bind (wpAny_mono (tail _ T1) (fun _ s1 h1 => ?_) fun _ _ z => z)
      refine wpAny_mono h1 (fun r s' ⟨h', er, es', sb, S⟩ => ?_) fun _ _ z => z
      subst er es'
      exact wpAny_pure (hQ _ h' sb S)
end
end Xa
/-! XS3: set(xs), xs a list of texts. -/
namespace Xa
open PySem PySem.Spec
open PyProof.Rows L2
/-- the first i texts, each once -/
def firsts (xs : List Str) (i : Nat) : List Str := (xs.take i).foldl more []
theorem more_len (L : List Str) (x : Str) : (more L x).length ≤ L.length + 1 := by
  unfold more
  split
  · exact Nat.le_succ _
  · exact Nat.le_refl _
theorem fold_len : ∀ (ys L : List Str), (ys.foldl more L).length ≤ L.length + ys.length
  | [], L => Nat.le_refl _
  | y :: ys, L => by
    have h1 := fold_len ys (more L y)
    have h2 := more_len L y
    rw [List.foldl_cons, List.length_cons]; omega
theorem firsts_len (xs : List Str) (i : Nat) : (firsts xs i).length ≤ i := by
  have h1 := fold_len (xs.take i) []
  have h2 := List.length_take_le i xs
  unfold firsts
  simp only [List.length_nil] at h1; omega
theorem firsts_succ {xs : List Str} {i : Nat} (h : i < xs.length) (e : Str) : firsts xs (i + 1) = more (firsts xs i) (xs.getD i e) := by
  have hx : xs.getD i e = xs[i] := by rw [List.getD_eq_getElem?_getD, List.getElem?_eq_getElem h]; rfl
  unfold firsts
  rw [hx, List.take_add_one, List.getElem?_eq_getElem h, Option.toList_some, List.foldl_append]
  rfl
theorem more_mem {L : List Str} {x y : Str} : y ∈ more L x ↔ y ∈ L ∨ y = x := by
  unfold more
  split
  · rename_i h
    exact ⟨.inl, fun z => z.elim id fun e => e ▸ h⟩
  · rw [List.mem_cons]
    exact Or.comm
theorem fold_mem : ∀ (ys L : List Str) (y : Str), y ∈ ys.foldl more L ↔ y ∈ L ∨ y ∈ ys
  | [], L, y => by simp
  | z :: ys, L, y => by
    rw [List.foldl_cons, fold_mem ys, more_mem, List.mem_cons, or_assoc]
theorem more_nd {L : List Str} (x : Str) (h : L.Nodup) : (more L x).Nodup := by
  unfold more
  split
  · exact h
  · rename_i n
    exact List.nodup_cons.mpr ⟨n, h⟩
theorem fold_nd : ∀ (ys L : List Str), L.Nodup → (ys.foldl more L).Nodup
  | [], L, h => h
  | y :: ys, L, h => fold_nd ys _ (more_nd y h)
theorem TSet.at {w : World} {h h' : Heap} {a : Addr} {L : List Str} (R : TSet w h a L) (k : ∀ o, h.get? a = some o → h'.get? a = some o) : TSet w h' a L :=
  let ⟨o, es, ep, t, ho, r⟩ := R
  ⟨o, es, ep, t, k o ho, r⟩
/-- the new set -/
abbrev newSet (w : World) : Obj := { cls := .type "set", dict := none, data := .set #[] 0 (.fresh 0 0 (!w.params.followText "set-order")) }
theorem tset_fresh {w : World} {h : Heap} {a : Addr} (ho : h.get? a = some (newSet w)) : TSet w h a [] := by
  refine ⟨_, #[], 0, _, ho, ⟨rfl, rfl, rfl⟩, rfl, fun e he => by simp at he, .nil, .nil, by decide, rfl, .nil, ?_⟩
  show _ ∨ (!w.params.followText "set-order") = true; cases w.params.followText "set-order" <;> simp
section
variable {P : Program} {w : World} {A : Around} {R : Result → Shared → Prop} {I : Addr} {fp wr : List Addr} {G : Array GenState → Array GenState → Prop} {n : Nat} {Pv : Nat → Value → Prop} {St : Nat → Shared → Prop}
theorem tset_loop (W : WalksS P w A.in1 I fp wr G n Pv St) (S : Addr) (off : S ∉ fp) (xs : List Str) (hsz : xs.length = n) (room : n + 1 < scanBound)
    (hval : ∀ i v, Pv i v → ∃ t, v = .str (xs.getD i ⟨#[]⟩) t) :
    ∀ (k i : Nat) (s : Shared), n - i = k → i ≤ n → St i s → TSet w s.heap S (firsts xs i) → (∀ s', Moved (S :: wr) G s s' → TSet w s'.heap S (firsts xs n) → R (.ok (.ret .none)) s') →
      codeAny (model P w) A (.builtin "set.update.loop" ⟨[.ref S,
              .ref I], []⟩) R s := by
  have offW : S ∉ wr := fun h => off (W.sub _ h)
  have up : ∀ b ∈ wr, b ∈ S :: wr := fun b hb => List.mem_cons_of_mem _ hb
  intro k
  induction k with
  | zero =>
    intro i s hk hi st T hR
    obtain rfl : i = n := by omega
    refine codeAny_builtin F.entry_set_update_loop ?_; rw [Around.under_plainId F.plain_set_update_loop _]
    refine wpAny_bind (W.done s _ _ st fun s' hm => ?_)
    exact wpAny_pure (hR s' (hm.mono up) (T.at fun o => hm.heap S o offW))
  | succ k ih =>
    intro i s hk hi st T hR
    have lt : i < n := by omega
    refine codeAny_builtin F.entry_set_update_loop ?_; rw [Around.under_plainId F.plain_set_update_loop _]
    refine wpAny_bind (W.item i s _ _ lt st fun v s' hP st' hm => ?_)
    obtain ⟨t, rfl⟩ := hval i v hP; have T' : TSet w s'.heap S (firsts xs i) := T.at fun o => hm.heap S o offW
    have few : (firsts xs i).length + 1 < scanBound := by have := firsts_len xs i; omega
    show wpAny _ A.in1 (holding [Value.str (xs.getD i ⟨#[]⟩) t] (setAdd S (.str (xs.getD i ⟨#[]⟩) t)) >>= _) _ _ s'
    refine wpAny_bind (wpAny_holding ?_); unfold setAdd
    refine wpAny_holding (wpAny_bind ((PySem.strKind P w).pyHash (strKind_is _ _ (xs.getD i ⟨#[]⟩) _) ?_))
    refine tset_hashed (s := { s' with toks := s'.toks + 1 }) T' few fun b h' sb T2 => ?_
    rw [← firsts_succ (by omega) ⟨#[]⟩] at T2
    refine wpAny_pure ⟨plainId_quiet F.plain_set_update_loop _, ih (i + 1) _ (by omega) lt (W.frame _ s' _ _ st' (Nat.le_succ _) fun c hc o e => ?_) T2 fun s'' hm'' T3 => ?_⟩
    · rw [sb.2 c fun z => off (z ▸ hc)]
      exact e
    · refine hR s'' (Moved.trans W.gtrans ((hm.mono up).then_heap (Nat.le_succ _) fun c o hc e => ?_) hm'') T3
      rw [sb.2 c fun z => hc (by rw [z]; exact List.mem_cons_self)]
      exact e
end
end Xa
/-! XS4: the call set(xs). -/
namespace Xa
open PySem PySem.Spec
open PyProof.Rows L2
theorem strs_getD : ∀ {us : List Value} {xs : List Str} {i : Nat} {v : Value}, StrsAre us xs → us[i]? = some v → ∃ t, v = .str (xs.getD i ⟨#[]⟩) t
  | _, _, i, v, .nil, h => by simp at h
  | _, _, 0, v, .cons x t r, h => by
    simp only [List.getElem?_cons_zero] at h; cases h
    exact ⟨t, rfl⟩
  | _, _, i + 1, v, .cons x t r, h => by
    simp only [List.getElem?_cons_succ] at h; exact strs_getD (i := i) r h
section
variable {P : Program}
variable {w : World}
variable {A : Around}
variable {E : Value → Shared → Prop}
variable {s : Shared}
theorem call_setT {l : Addr} {items : Array Value} {xs : List Str} {Q : Value → Shared → Prop} (hh : A.handled = none) (hl : s.heap.IsList l items) (hi : StrsAre items.toList xs) (room : xs.length + 1 < scanBound)
    (h : ∀ (h' : Heap) (tk : Nat), TSet w h' s.heap.objs.size (xs.foldl more []) → (∀ b o, s.heap.get? b = some o → h'.get? b = some o) → Q (.ref s.heap.objs.size) { s with heap := h', toks := tk }) :
    wpAny (model P w) A (call
            (.type "set") [.ref l]) Q E s := by
  have sz : xs.length = items.size := by
    have := StrsAre.len_eq hi
    rw [Array.length_toList] at this; omega
  obtain ⟨c, tl, hmro⟩ := F.called_set.mro; have hmade := F.called_set.made
  have hsub := F.called_set.sub
  refine wpAny_call (codeAny_of_tree ?_); show wpAny _ _ (callAny (.type "set") _) _ _ _
  refine wpAny_pure ⟨Code.quiet_builtin _
          (by decide +kernel), codeAny_builtin F.entry_type_call ?_⟩
  rw [Around.under_plain (weight_type_call_type "set" [.ref l] []) rfl]; have h1 := F.called_set.notType
  have h2 := F.called_set.canCreate; have hct := F.typeCall_set_1 (.ref l)
  repeat (any_goals (first
          | assumption | wp_step))
  refine codeAny_mono (code_set_led1 (.ref l) (E := E) (Q₁ := fun obj s1 => obj = .ref s.heap.objs.size ∧ s1 = { s with heap := s.heap.push (newSet w) }) ⟨rfl, rfl⟩) fun r s1 hr => ?_
  cases r with
  | error e => exact hr
  | ok fl =>
    cases fl with
    | ret obj =>
      obtain ⟨eo, es⟩ := hr
      subst eo es
      have hS : (s.heap.push (newSet w)).get? s.heap.objs.size = some (newSet w) := Heap.get?_push_size _ rfl
      have hT : Shared.TypeIs { s with heap := s.heap.push (newSet w) } (.ref s.heap.objs.size) "set" := ⟨_, hS, rfl⟩
      have hli := F.called_set.init.lookup; have hbi := F.called_set.init.bind (.ref s.heap.objs.size)
      repeat (any_goals (first
              | assumption | wp_step))
      refine codeAny_mono (codeAny_call_builtin (R := wants (fun r s2 => r = .none ∧ ∃ h' tk, s2 = { s with heap := h', toks := tk } ∧ TSet w h' s.heap.objs.size (xs.foldl more []) ∧ (∀ b o, s.heap.get? b = some o → h'.get? b = some o)) E)
        F.called_set.init.plain F.entry_set_init (check_set_init_1 hT ?_)) fun r2 s2 hr2 => ?_
      · obtain ⟨⟨ocls, odict, odata, oslots⟩, hol, hcl, nl, hdl⟩ := hl
        simp only at hcl hdl
        subst hcl hdl
        have hol' : (s.heap.push (newSet w)).get? l = some { cls := .type "list", dict := odict, data := .seq items nl, slots := oslots } := Heap.get?_push_of_some _ hol
        have hsls := F.sub_list_set; have hslf := F.sub_list_frozenset
        have hne : (Value.type "list" ==
                Value.type "dict") = false := by decide
        have hl1 : (s.heap.push (newSet w)).IsList l items := ⟨_, hol', rfl, nl, rfl⟩
        unfold Builtin.«set.__init__» noKeywords Builtin.Frozenset.updateFrom; generalize hPI : pyIter = PI
        wp_walk
        subst hPI
        refine wpAny_pyIter_list hl1 (wpAny_bind (wpAny_runValue ?_))
        have lt : l < s.heap.objs.size := Heap.lt_size hol
        have size1 : (s.heap.push (newSet w)).objs.size = s.heap.objs.size + 1 := Heap.size_push ..
        have free : A.in1.in1.in1.handled = none := by simp [hh]
        have offS : s.heap.objs.size ∉ [(s.heap.push (newSet w)).objs.size, l] := fun z => by
          rw [size1] at z; rcases List.mem_cons.mp z with z | z
          · exact absurd z (Nat.ne_of_lt (Nat.lt_succ_self _))
          · exact absurd (List.mem_singleton.mp z) (Nat.ne_of_gt lt)
        refine tset_loop (Walks.list free _ l (by rw [size1]; exact Nat.ne_of_lt (Nat.lt_succ_of_lt lt)) items).toS s.heap.objs.size offS xs sz (by omega) (fun i v hv => strs_getD hi (by rw [Array.getElem?_toList]; exact hv)) (items.size - 0) 0 _ (by omega) (Nat.zero_le _)
          ⟨⟨_, Heap.get?_push_size _ rfl, rfl, rfl⟩, (hl1.push _)⟩ (tset_fresh (Heap.get?_push_of_some _ hS)) fun s' hm T => ?_
        obtain ⟨h', g', d', tk', os'⟩ := s'; have eg : g' = s.gens := hm.gens
        have ed : d' = s.drawn := hm.drawn; have eo : os' = s.os := hm.os
        subst eg ed eo
        have all : firsts xs items.size = xs.foldl more [] := by unfold firsts; rw [← sz, List.take_length]
        rw [all] at T
        show wpAny _ _ _ _ _ _
        refine wpAny_pure ?_
        show wpAny _ _ (ret Value.none) _ _ _; refine wpAny_pure ⟨rfl, h', tk', rfl, T, fun b o e => hm.heap b o (fun z => ?_) (Heap.get?_push_of_some _ (Heap.get?_push_of_some _ e))⟩
        have hb := Heap.lt_size e; rcases List.mem_cons.mp z with z | z
        · exact absurd hb (z ▸ Nat.lt_irrefl _)
        · have z := List.mem_singleton.mp z; rw [z, size1] at hb
          exact absurd hb (Nat.not_lt_of_le (Nat.le_succ _))
      · cases r2 with
        | error e => exact hr2
        | ok fl2 =>
          cases fl2 with
          | ret r =>
            obtain ⟨er, h', tk, es, T, kp⟩ := hr2
            subst er es
            repeat (any_goals
                    (first | assumption | wp_step))
            exact h _ _ T kp
          | _ => exact hr2.elim
    | _ => exact hr.elim
end
end Xa
/-! XS5: sorted(set(xs)), xs a list of texts. -/
namespace Xa
open PySem PySem.Spec
open PyProof.Rows L2
/-- texts in their order -/
def sortS (xs : List Str) : List Str := xs.mergeSort fun x y => !sLt y x
theorem sortS_perm (xs : List Str) : (sortS xs).Perm xs := List.mergeSort_perm _ _
theorem sortS_up (xs : List Str) : (sortS xs).Pairwise fun x y => (!sLt y x) = true :=
  List.pairwise_mergeSort (le := fun x y => !sLt y x) (fun a b c h1 h2 => by
    simp only [sLt, Bool.not_eq_true', decide_eq_false_iff_not] at h1 h2 ⊢
    exact List.not_lt.mpr (List.le_trans (List.not_lt.mp h1) (List.not_lt.mp h2))) (fun a b => by
    simp only [sLt, Bool.or_eq_true, Bool.not_eq_true', decide_eq_false_iff_not]
    exact (List.le_total a.cps.toList b.cps.toList).imp List.not_lt.mpr List.not_lt.mpr) xs
theorem sortS_eq {xs ys : List Str} (h : xs.Perm ys) : sortS xs = sortS ys := by
  refine List.Perm.eq_of_pairwise (le := fun x y => (!sLt y x) = true) (fun a b _ _ h1 h2 => ?_) (sortS_up xs) (sortS_up ys) (((sortS_perm xs).trans h).trans (sortS_perm ys).symm)
  simp only [sLt, Bool.not_eq_true', decide_eq_false_iff_not] at h1 h2
  have e := List.le_antisymm (List.not_lt.mp h1) (List.not_lt.mp h2)
  cases a; cases b
  congr 1
  exact Array.toList_inj.mp e
/-- a text beside its datum -/
def both (x : Str) : V × D := (.str x, .str x)
theorem both_le (x y : Str) : PySem.W.dataLe false (fun p : V × D => py p.2) (both x) (both y) = !sLt y x := by
  show PySem.W.dataLe false py (.str x) (.str y) = _
  rw [PySem.W.dataLe_eq]
  show (!PySem.W.dataLt (.str y) (.str x)) = _
  rw [PySem.W.dataLt_str] <;> rfl
theorem sort_both {xs ys : List Str} (h : xs.Perm ys) : ((xs.map both).mergeSort (PySem.W.dataLe false fun p : V × D => py p.2)).map (·.1) = (sortS ys).map V.str := by
  rw [← List.map_mergeSort (r := fun x y => !sLt y x) fun a _ b _ => (both_le a b).symm, List.map_map]
  show (sortS xs).map V.str = _
  rw [sortS_eq h]
def txtV (u : Value) : Str := txtE (0, u)
theorem txt_vals : ∀ {us : List Value}, (∀ u ∈ us, ∃ x tk, u = Value.str x tk) → Vals ((us.map txtV).map V.str) us
  | [], _ => .nil
  | u :: r, h => by
    obtain ⟨x, tk, rfl⟩ := h u List.mem_cons_self
    exact .cons ⟨tk, rfl⟩ (txt_vals fun v hv => h v (List.mem_cons_of_mem _ hv))
section
variable {X : Cx} {pins : List (Addr × Obj)} {σ : L2.St} {s : Shared} {H : Hp}
theorem sorted_tset {a : Addr} {L : List Str} {Q : VK} (hu : X.A.units + 66 < cLine) (hc : X.calm = true) (I : Inv X pins σ H s) (T : TSet X.w s.heap a L) (ok : okSort (L.map D.str) = true)
    (q : ∀ p, H p = none → Q (.ref p) (upd H p (.lst ((sortS L).map V.str)))) : wpAny (model X.prog X.w) X.A (call (.builtin "sorted") [.ref a]) (EP X pins σ Q) X.xe s := by
  obtain ⟨o, es, ep, t, ho, hex, hd, T⟩ := T
  refine Calls.call_function_entry PyProof.Rows.kind_sorted PyProof.Rows.plain_sorted PyProof.Rows.entry_sorted (PyProof.Rows.args_sorted1 _) ?_; unfold Builtin.«sorted»
  refine wpAny_bind (m := checkCount "sorted" 1 1 _) (wpAny_pure (wpAny_bind (collect_set (A := X.A.in1) (I.ok.hd hc) ⟨o, ho, hex.1, hd⟩ T.fits T.few T.ris T.led fun s1 us k1 hz g1 o1 pm => ?_)))
  have hts : ∀ u ∈ us, ∃ x tk, u = Value.str x tk := fun u hu => by
    obtain ⟨e, he, rfl⟩ := List.mem_map.mp (pm.mem_iff.mp hu)
    obtain ⟨x, tk, e1, _⟩ := T.good e he
    exact ⟨x, tk, e1⟩
  have pL : (us.map txtV).Perm L := by
    have := pm.map txtV
    rw [List.map_map] at this
    exact this.trans T.perm
  obtain ⟨h1, h2, h3, h4⟩ := okSort_inv ok
  have I1 : Inv X pins σ H { s with heap := s1.heap, gens := s1.gens, drawn := s1.drawn, toks := s1.toks } := I.call (ch := []) (Un.kept k1) (I.hok.kept k1) (by rw [g1]; exact I.bare) (fun _ z => nomatch z)
  have e : s1 = { s with heap := s1.heap, gens := s1.gens, drawn := s1.drawn, toks := s1.toks } := by
    cases s1; cases s; cases o1; rfl
  have ul : us.length = L.length := by have := pL.length_eq; simpa using this
  have zl : us.length ≤ sizeLine := by rw [ul]; simpa using h4
  have r : Vals (((us.map txtV).map both).map (·.1)) us := by
    rw [List.map_map]
    exact txt_vals hts
  have inL : ∀ p ∈ (us.map txtV).map both, p.2 ∈ L.map D.str := fun p hp => by
    obtain ⟨x, hx, rfl⟩ := List.mem_map.mp hp
    exact List.mem_map_of_mem (pL.mem_iff.mp hx)
  have ok2 : okSort (((us.map txtV).map both).map (·.2)) = true := by
    have e2 : ((us.map txtV).map both).map (·.2) = (us.map txtV).map D.str := by rw [List.map_map]; rfl
    have pd := pL.map D.str
    rw [e2]
    unfold okSort at ok ⊢
    simp only [Bool.and_eq_true, Bool.or_eq_true, decide_eq_true_eq] at ok ⊢
    obtain ⟨⟨⟨c1, c2⟩, c3⟩, c4⟩ := ok
    refine ⟨⟨⟨?_, .inr ?_⟩, ?_⟩, by rw [pd.length_eq]; exact c4⟩
    · unfold sameKind at c1 ⊢
      exact List.all_eq_true.mpr fun d hd' => List.all_eq_true.mpr fun d' hd'' => List.all_eq_true.mp (List.all_eq_true.mp c1 d (pd.mem_iff.mp hd')) d' (pd.mem_iff.mp hd'')
    · rw [List.all_map]; exact List.all_eq_true.mpr fun w _ => rfl
    · exact List.all_eq_true.mpr fun d hd' => List.all_eq_true.mp c3 d (pd.mem_iff.mp hd')
  have dp : ∀ p ∈ (us.map txtV).map both, Dp X.K H p.1 (py p.2) := fun p hp => by
    obtain ⟨x, hx, rfl⟩ := List.mem_map.mp hp
    have c3 := List.all_eq_true.mp h3 (.str x) (List.mem_map_of_mem (pL.mem_iff.mp hx))
    have ow : Ow X.K 0 (fun _ => False) H .frz (.str x) (.str x) [] := .str (by decide)
    exact Ow.dp.1 ow (by decide) (SeqAt.canLay_of_shaped c3)
  rw [e]
  refine wpAny_bind (wpAny_newList ?_ zl)
  have hL : s1.heap.get? s1.heap.objs.size = none := by
    cases e : s1.heap.get? s1.heap.objs.size with
    | none => rfl
    | some o =>
        exact absurd (Heap.lt_size e) (Nat.lt_irrefl _)
  have kp : ∀ b o, s1.heap.get? b = some o → (s1.heap.push (seqObj "list" us.toArray 0)).get? b = some o := fun b o e => Heap.get?_push_of_some _ e
  have hoL : (s1.heap.push (seqObj "list" us.toArray 0)).get? s1.heap.objs.size = some (seqObj "list" us.toArray 0) := Heap.get?_push_size _ rfl
  refine wpAny_bind (wpAny_holding (PySem.W.list_sort_data (s := { s with heap := s1.heap.push (seqObj "list" us.toArray 0), gens := s1.gens, drawn := s1.drawn, toks := s1.toks }) (enc := fun p : V × D => py p.2) hoL (vals_is r) (each_reads I1 hL kp r dp) (okSort_al ok2) (okSort_so ok2) (by simpa using zl) (fun p hp => ?_) fun out hout eo => ?_))
  · have h6 := SeqAt.depth_of_shaped (List.all_eq_true.mp h3 p.2 (inL p hp))
    show X.A.in1.units + 1 + _ < cLine
    have : X.A.in1.units = X.A.units + 1 := rfl
    omega
  · obtain ⟨c, hc⟩ := PyProof.Rows.sortedHeap_at (vs := us) (out := List.toArray out) hoL
    have eo := each_vals eo
    rw [sort_both pL] at eo
    have few : ((sortS L).map V.str).length ≤ sizeLine := by
      rw [List.length_map, (sortS_perm L).length_eq, ← ul]; exact zl
    refine wpAny_pure ⟨_, rfl, .ref s1.heap.objs.size, upd H s1.heap.objs.size (.lst _), I1.laid (t' := s1.toks) (fun b o e => ?_) (Nat.le_refl _) ⟨few, out, c, eo, hc⟩, rfl, q _ (I1.hok.fresh (Nat.le_refl _))⟩
    have hb : b < s1.heap.objs.size := Heap.lt_size e
    rw [PyProof.Rows.sortedHeap_old (Nat.ne_of_lt
            hb) (by rw [size_push']; exact Nat.lt_succ_of_lt hb)]
    exact kp b o e
end
end Xa
/-! XS6: sorted(set(xs)) over data. -/
namespace Xa
open PySem PySem.Spec
open PyProof.Rows L2
def strsOf : List D → Option (List Str)
  | [] => some []
  | .str x :: r => (strsOf r).map (x :: ·)
  | _ :: _ => none
theorem strsOf_map (xs : List Str) : strsOf (xs.map D.str) = some xs := by
  induction xs with
  | nil => rfl
  | cons x r ih => rw [List.map_cons]; unfold strsOf; rw [ih]; rfl
theorem owl_strsOf {K : PySem.W.Frag} {b : Addr} {O : Addr → Prop} {H : Hp} : ∀ {ds : List D} {vs : List V} {A : List Addr} {xs : List Str}, OwL K b O H .frz vs ds A → strsOf ds = some xs → vs = xs.map V.str
  | [], vs, A, xs, h, e => by cases h; cases e; rfl
  | d :: r, vs, A, xs, h, e => by
    obtain ⟨v, vs', A1, A2, rfl, _, h1, h2⟩ := h.consd_inv
    cases d with
    | str x =>
      unfold strsOf at e
      cases e2 : strsOf r with
      | none => rw [e2] at e; cases e
      | some m =>
        rw [e2] at e; cases e
        have ev : v = .str x := by cases h1; rfl
        rw [ev, owl_strsOf h2 e2]; rfl
    | _ => cases e
theorem owl_strs {K : PySem.W.Frag} {b : Addr} {O : Addr → Prop} {H : Hp} : ∀ xs : List Str, OwL K b O H .frz (xs.map V.str) (xs.map D.str) []
  | [] => .nil
  | x :: r => OwL.consN (.str (by decide)) (owl_strs r)
/-- the texts, each once, in their order -/
def uniqS (xs : List Str) : List Str := sortS (xs.foldl more [])
def fUniq (x : D) : Option D := match x with
  | .lst ds => (strsOf ds).bind fun xs => if xs.length + 1 < scanBound ∧ okSort ((xs.foldl more []).map D.str) = true then some (.lst ((uniqS xs).map D.str)) else none
  | _ => none
def rUniq (K : PySem.W.Frag) : V → Hp → VK → Prop := fun x H Q => ∃ a xs, x = .ref a ∧ SqL K H a (xs.map V.str) ∧ xs.length + 1 < scanBound ∧ okSort ((xs.foldl more []).map D.str) = true ∧ ∀ p, H p = none → Q (.ref p) (upd H p (.lst ((uniqS xs).map V.str)))
section
variable {X : Cx} {mu : List Md} {a : Expr} {ta : TE} {f1 : DE} {pos p q p2 : Pos}
theorem pe_uniq (hc : X.calm = true) (hu : X.A.units + 66 < cLine) (hg : Gl X "sorted") (hm : X.mg "sorted" = none) (hg2 : Gl X "set") (hm2 : X.mg "set" = none) (ha : PE X a ta)
    (na : starEach [a] X.env = (false, eval a X.env) :: starEach [] X.env := by rfl) : PE X (.Call (.Name "sorted" p) [.Call (.Name "set" p2) [a] [] q] [] pos) (tUn (rUniq X.K) ta) := by
  refine ⟨fun pins s σ H Q I h => ?_⟩; refine Call_ (ld_blt I hg hm boot_sorted ?_)
  refine PyProof.Rows.callWith_builtin1 (PyProof.Rows.args_cons ?_ rfl) rfl rfl; refine Call_ (ld_blt I hg2 hm2 boot_set ?_)
  refine PyProof.Rows.callWith_type1 (PyProof.Rows.args_cons (thn (ha.run pins s σ H _ I h) fun v s1 ⟨x, H1, I1, r1, q1⟩ => PyProof.Rows.args_nil ?_) na) na rfl; obtain ⟨b, xs, ex, sq, few, ok, q1⟩ := q1
  subst ex
  cases r1
  obtain ⟨its, r, pl, hz⟩ := I1.list sq
  exact call_setT (I1.ok.hd hc) pl.isList (by simpa using strsAre_of r) few fun h' tk T k => PyProof.Rows.args_nil (sorted_tset hu hc (I1.kept k) T ok q1)
theorem ev_uniq (hc : X.calm = true) (hu : X.A.units + 66 < cLine) (hg : Gl X "sorted") (hm : X.mg "sorted" = none) (hg2 : Gl X "set") (hm2 : X.mg "set" = none) (ha : EV X mu a .vw f1)
    (na : starEach [a] X.env = (false, eval a X.env) :: starEach [] X.env := by rfl) : EV X mu (.Call (.Name "sorted" p) [.Call (.Name "set" p2) [a] [] q] [] pos) (.val (.own .frz)) (d1 fUniq f1) :=
  ev_one (r := rUniq X.K) (pe_uniq hc hu hg hm hg2 hm2 ha na) (by
    intro b O H x dx d Q vb ob hb dm hx e q
    unfold fUniq at e
    split at e
    · rename_i ds
      cases e1 : strsOf ds with
      | none => rw [e1] at e; cases e
      | some xs =>
        rw [e1, Option.bind_some] at e
        split at e <;> cases e
        rename_i ok
        obtain ⟨p, vs, rfl, hs, t⟩ := hx.lst_inv
        obtain rfl := owl_strsOf t e1
        exact ⟨p, xs, rfl, .inl hs, ok.1, ok.2, fun l hl => q _ _ [l] (grow_upd hl) (fun a z => by rw [List.mem_singleton.mp z]; exact hl) (List.nodup_cons.mpr ⟨(fun z => nomatch z), List.nodup_nil⟩) (new_lstO ob hb hl (owl_strs _))⟩
    · cases e)
end
end Xa
/-! YE1: texts sorted, each once. -/
namespace Xa
open PySem PySem.Spec
open PyProof.Rows L2
theorem sortD_strs (ws : List Str) : sortD (ws.map D.str) = (sortS ws).map D.str := by
  unfold sortD sortS
  exact (List.map_mergeSort (r := fun x y => !sLt y x) fun a _ b _ => (le_str a b).symm).symm
theorem fSorted_strs {ws : List Str} (hl : ∀ w ∈ ws, Lay w) (h : ws.length ≤ 100000) : fSorted (.lst (ws.map D.str)) = some (.lst ((sortS ws).map D.str)) := by
  unfold fSorted
  simp only
  rw [if_pos (okSort_strs ws hl h), sortD_strs]
theorem fSortedD_strs {kvs : List (D × D)} {ws : List Str} (e : kvs.map (·.1) = ws.map D.str) (hl : ∀ w ∈ ws, Lay w) (h : ws.length ≤ 100000) : fSortedD (.dic kvs) = some (.lst ((sortS ws).map D.str)) := by
  unfold fSortedD
  simp only
  rw [e, if_pos (okSort_strs ws hl h), sortD_strs]
theorem uniq_mem {xs : List Str} {y : Str} : y ∈ uniqS xs ↔ y ∈ xs := by
  unfold uniqS
  rw [(sortS_perm _).mem_iff, fold_mem]
  simp
theorem uniq_nd (xs : List Str) : (uniqS xs).Nodup := (sortS_perm _).nodup_iff.mpr (fold_nd xs [] .nil)
theorem fUniq_strs {ws : List Str} (hl : ∀ w ∈ ws, Lay w) (h : ws.length ≤ 4000) : fUniq (.lst (ws.map D.str)) = some (.lst ((uniqS ws).map D.str)) := by
  have len := fold_len ws []
  have ok : okSort ((ws.foldl more []).map D.str) = true := okSort_strs _ (fun w hw => hl w (by have := (fold_mem ws [] w).mp hw; simpa using this)) (by simp only [List.length_nil] at len; omega)
  unfold fUniq
  simp only
  rw [strsOf_map, Option.bind_some, if_pos ⟨by unfold scanBound; omega, ok⟩]
/-- two lists without doubles and with the same members are one, sorted -/
theorem sortS_mem {xs ys : List Str} (hx : xs.Nodup) (hy : ys.Nodup) (h : ∀ z, z ∈ xs ↔ z ∈ ys) : sortS xs = sortS ys := sortS_eq ((List.perm_ext_iff_of_nodup hx hy).mpr h)
theorem uniq_eq {xs ys : List Str} (hy : ys.Nodup) (h : ∀ z, z ∈ xs ↔ z ∈ ys) : uniqS xs = sortS ys := by
  unfold uniqS
  refine sortS_mem (fold_nd xs [] .nil) hy fun z => ?_
  rw [fold_mem, ← h]
  simp
theorem sortS_sorted {xs : List Str} (h : xs.Pairwise fun x y => (!sLt y x) = true) : sortS xs = xs := by
  refine List.Perm.eq_of_pairwise (le := fun x y => (!sLt y x) = true) (fun a b _ _ h1 h2 => ?_) (sortS_up xs) h (sortS_perm xs)
  simp only [sLt, Bool.not_eq_true', decide_eq_false_iff_not] at h1 h2
  have e := List.le_antisymm (List.not_lt.mp h1) (List.not_lt.mp h2)
  cases a; cases b
  congr 1
  exact Array.toList_inj.mp e
end Xa
/-! YE2: what one comes to from a station in a lot of sections. -/
namespace Xa
open PySem PySem.Spec
open PyProof.Rows L2
/-- a set of stations with e that no section leaves -/
structure Closed (ns : List Str) (es : List Sec) (e : Str) (ks : List Str) : Prop where
  sub : ∀ s ∈ ks, s ∈ ns
  has : e ∈ ks
  all : ∀ s ∈ ks, ∀ v ∈ nbL es s, v ∈ ks
/-- the steps to e, in any lot of sections over the stations -/
theorem tells_stepsG {ns : List Str} {es : List Sec} {e : Str} (hf : Fits2 ns es) (he : e ∈ ns) (hm : ns.length ≤ 900) :
    Tells (runD 6 stepsB) [.dic (nearK ns (nbL es)), .str e] (fun d => ∃ vis, d = .dic (visK vis) ∧ VisOk es e vis ∧ Closed ns es e (keysOf vis)) := by
  have nbN : ∀ {u v : Str}, v ∈ nbL es u → v ∈ ns := fun {u v} hv => by
    obtain ⟨x, hx, j⟩ := (adj_iff hf).mp hv
    exact j.elim (fun z => z.2 ▸ (hf x hx).2.1) fun z => z.1 ▸ (hf x hx).1
  have kl : ∀ {vis : Vis} {w : List Str}, StOk ns es e vis w → vis.length ≤ ns.length := fun {vis w} z => by
    have := nd_len z.ok.nd z.sub
    unfold keysOf at this
    rw [List.length_map] at this
    exact this
  refine tells_run ?_
  unfold stepsB
  generalize hL : (.dic (nearK ns (nbL es)) : D) = L
  have s0 : startG 6 [L, .str e] = [some L, some (.str e), none, none, none, none] := rfl
  rw [s0]
  refine does_then (Pm := fun G => G = [some L, some (.str e), some (.dic (visK [(e, none)])), none, none, none]) (does_set (P := (· = .dic (visK [(e, none)]))) (fun B g => ⟨_, B, rfl, g, rfl⟩) fun d e => by subst e; rfl) fun G e1 => ?_
  subst e1
  refine does_then (Pm := fun G => G = [some L, some (.str e), some (.dic (visK [(e, none)])), some (.lst [.str e]), none, none]) (does_set (P := (· = .lst [.str e])) (says_op (saysL_one (says_var rfl)) fun ds e => by subst e; exact ⟨_, semLst_ok (by simp), rfl⟩) fun d e => by subst e; rfl) fun G e1 => ?_
  subst e1
  let Sh : Vis → List Str → Gam → Prop := fun vis w G => ∃ y4 y5, G = [some L, some (.str e), some (.dic (visK vis)), some (.lst (w.map D.str)), y4, y5]
  let Inv : Nat → Gam → Prop := fun n G => ∃ vis w, Sh vis w G ∧ StOk ns es e vis w ∧ (∀ s ∈ keysOf vis, s ∈ w ∨ ∀ v ∈ nbL es s, v ∈ keysOf vis) ∧ 2 * (ns.length - vis.length) + w.length ≤ n ∧ n ≤ 2 * ns.length
  let Fin : Gam → Prop := fun G => ∃ vis w, Sh vis w G ∧ VisOk es e vis ∧ Closed ns es e (keysOf vis)
  have mpos : 1 ≤ ns.length := List.length_pos_of_mem he
  refine does_then (Pm := Fin) (does_while (Inv := Inv) ?_ (2 * (ns.length - 1) + 1) ⟨[(e, none)], [e], ⟨none, none, rfl⟩, ⟨VisOk.one es e, ?_, ?_, by simp [keysOf]⟩, ?_, ?_, ?_⟩) fun G ⟨vis, w, ⟨y4, y5, e1⟩, ok, all⟩ => ?_
  · rintro n G ⟨vis, w, ⟨y4, y5, rfl⟩, ok, cl, hn, hn2⟩
    refine ⟨decide (0 < (w.map D.str).length), says_gt0 rfl, fun hc => ?_, fun hc => ?_⟩
    · have hw : 0 < w.length := by simpa using of_decide_eq_true hc
      obtain ⟨w', here, rfl⟩ : ∃ w' here, w = w' ++ [here] := ⟨w.dropLast, w.getLast (List.length_pos_iff.mp hw), (List.dropLast_concat_getLast _).symm⟩
      have hh : here ∈ keysOf vis := ok.wk here (by simp)
      have hhn : here ∈ ns := ok.sub here hh
      have hwl : 2 * (ns.length - vis.length) + w'.length < n := by
        rw [List.length_append] at hn; simp only [List.length_nil, List.length_cons] at hn; omega
      refine does_then (Pm := fun G => G = [some L, some (.str e), some (.dic (visK vis)), some (.lst (w'.map D.str)), some (.str here), y5]) (does_mtSet (ds := (w' ++ [here]).map D.str) rfl saysL_nil (by rw [List.map_append]; exact mPop_snoc _ _) rfl) fun G e1 => ?_
      subst e1
      let In : Nat → Gam → Prop := fun i G => ∃ vis w y5, G = [some L, some (.str e), some (.dic (visK vis)), some (.lst (w.map D.str)), some (.str here), y5] ∧ StOk ns es e vis w ∧ here ∈ keysOf vis ∧ (∀ s ∈ keysOf vis, s = here ∨ s ∈ w ∨ ∀ v ∈ nbL es s, v ∈ keysOf vis) ∧ (∀ v ∈ (nbL es here).take i, v ∈ keysOf vis) ∧ 2 * (ns.length - vis.length) + w.length < n
      refine does_for (ds := (nbL es here).map D.str) (Inv := In) (saysL_items (d := .lst ((nbL es here).map D.str)) (says_d2 (P1 := (· = L)) (P2 := (· = .str here)) (says_var rfl) (says_var rfl) fun d e e1 e2 => by subst e1 e2; rw [← hL]; exact ⟨_, fIdx_near hhn, rfl⟩) rfl) ⟨vis, w', y5, rfl, ⟨ok.ok, ok.sub, fun s hs => ok.wk s (List.mem_append_left _ hs), ok.ek⟩, hh, fun s hs => ?_, fun v hv => by simp at hv, hwl⟩ ?_ ?_
      · rcases cl s hs with h1 | h1
        · rcases List.mem_append.mp h1 with h1 | h1
          · exact .inr (.inl h1)
          · exact .inl (List.mem_singleton.mp h1)
        · exact .inr (.inr h1)
      · rintro i d G hd ⟨vis, w, z5, rfl, ok, hh, cl, got, hw⟩
        rw [List.getElem?_map] at hd
        cases hx : (nbL es here)[i]? with
        | none => rw [hx] at hd; cases hd
        | some there =>
          rw [hx] at hd; cases hd
          have hth : there ∈ nbL es here := List.mem_of_getElem? hx
          have tk : ∀ v, v ∈ (nbL es here).take (i + 1) → v ∈ (nbL es here).take i ∨ v = there := fun v hv => by
            rw [List.take_add_one, hx] at hv
            rcases List.mem_append.mp hv with hv | hv
            · exact .inl hv
            · exact .inr (by simpa using hv)
          refine ⟨_, rfl, does_if (PT := fun c => c = decide (there ∉ keysOf vis)) (saysT_asB (says_d2 (P1 := (· = .str there)) (P2 := (· = .dic (visK vis))) (says_var rfl) (says_ownD rfl) fun d e e1 e2 => by subst e1 e2; exact ⟨_, vis_notIn ok.ok.nd, _, rfl, rfl⟩)) (fun hc => ?_) fun hc => ?_⟩
          · have hno : there ∉ keysOf vis := of_decide_eq_true hc.symm
            have ok' : VisOk es e (vis ++ [(there, some here)]) := ok.ok.more hh hno (adj_symm hf hth)
            have sub' : ∀ s ∈ keysOf (vis ++ [(there, some here)]), s ∈ ns := fun s hs => by
              rw [keysOf_snoc] at hs
              rcases List.mem_append.mp hs with hs | hs
              · exact ok.sub s hs
              · rw [List.mem_singleton.mp hs]; exact nbN hth
            have kl' : (vis ++ [(there, some here)]).length ≤ ns.length := kl (w := []) ⟨ok', sub', fun s hs => (nomatch hs), by rw [keysOf_snoc]; exact List.mem_append_left _ ok.ek⟩
            rw [List.length_append] at kl'
            simp only [List.length_nil, List.length_cons] at kl'
            have mono : ∀ {s}, s ∈ keysOf vis → s ∈ keysOf (vis ++ [(there, some here)]) := fun {s} hs => by rw [keysOf_snoc]; exact List.mem_append_left _ hs
            have new : there ∈ keysOf (vis ++ [(there, some here)]) := by rw [keysOf_snoc]; simp
            refine does_then (Pm := fun G => G = [some L, some (.str e), some (.dic (visK (vis ++ [(there, some here)]))), some (.lst (w.map D.str)), some (.str here), some (.str there)]) (does_dicPut (k := .str there) (v := nxtD (some here)) rfl (says_var rfl) (says_var rfl) vis_ok (by unfold visK; rw [List.length_map]; omega) (by rw [vis_put hno]; rfl)) fun G e1 => ?_
            subst e1
            refine does_mt draws_take (ds := w.map D.str) rfl (PL := (· = [.str there])) (saysL_one (says_var rfl)) fun es' e1 => ?_
            subst e1
            refine ⟨_, _, app_ok (by rw [List.length_map]; omega), vis ++ [(there, some here)], w ++ [there], some (.str there), by rw [List.map_append]; rfl, ⟨ok', sub', fun s hs => ?_, mono ok.ek⟩, mono hh, fun s hs => ?_, fun v hv => ?_, ?_⟩
            · rcases List.mem_append.mp hs with hs | hs
              · exact mono (ok.wk s hs)
              · rw [List.mem_singleton.mp hs]; exact new
            · rw [keysOf_snoc] at hs
              rcases List.mem_append.mp hs with hs | hs
              · rcases cl s hs with c | c | c
                · exact .inl c
                · exact .inr (.inl (List.mem_append_left _ c))
                · exact .inr (.inr fun v hv => mono (c v hv))
              · exact .inr (.inl (List.mem_append_right _ hs))
            · rcases tk v hv with hv | hv
              · exact mono (got v hv)
              · rw [hv]; exact new
            · rw [List.length_append, List.length_append]
              simp only [List.length_nil, List.length_cons]
              omega
          · have hin : there ∈ keysOf vis := by simpa using of_decide_eq_false hc.symm
            exact does_skip ⟨vis, w, some (.str there), rfl, ok, hh, cl, fun v hv => (tk v hv).elim (got v) fun z => z ▸ hin, hw⟩
      · rintro G ⟨vis, w, z5, rfl, ok, hh, cl, got, hw⟩
        rw [List.length_map, List.take_length] at got
        refine ⟨2 * (ns.length - vis.length) + w.length, hw, vis, w, ⟨_, _, rfl⟩, ok, fun s hs => ?_, Nat.le_refl _, by omega⟩
        rcases cl s hs with c | c | c
        · subst c; exact .inr got
        · exact .inl c
        · exact .inr c
    · have hw : w = [] := by
        have : ¬ 0 < (w.map D.str).length := of_decide_eq_false hc
        rw [List.length_map] at this
        exact List.length_eq_zero_iff.mp (Nat.eq_zero_of_not_pos this)
      subst hw
      have hek := ok.ek
      exact ⟨vis, [], ⟨y4, y5, rfl⟩, ok.ok, ⟨ok.sub, hek, fun s hs => (cl s hs).resolve_left fun z => nomatch z⟩⟩
  · intro s hs
    have : s = e := by simpa [keysOf] using hs
    rw [this]; exact he
  · intro s hs
    rw [List.mem_singleton.mp hs]; simp [keysOf]
  · intro s hs
    have : s = e := by simpa [keysOf] using hs
    rw [this]; exact .inl List.mem_cons_self
  · simp
  · omega
  · subst e1
    exact does_ret ((says_var (d := .dic (visK vis)) rfl).mono fun d e2 => ⟨vis, e2, ok, all⟩)
end Xa
/-! YE3: what a station comes to. -/
namespace Xa
open PySem PySem.Spec
open PyProof.Rows L2
/-- v is come to from u over the sections es -/
inductive Rch (es : List Sec) (u : Str) : Str → Prop
  | here : Rch es u u
  | step {v w : Str} : Rch es u v → Adj es v w → Rch es u w
section
variable {ns : List Str} {es : List Sec} {e u v w : Str} {vis : Vis}
theorem Rch.trans (h : Rch es u v) (h' : Rch es v w) : Rch es u w := by
  induction h' with
  | here => exact h
  | step _ a ih => exact .step ih a
theorem Rch.symm (hf : Fits2 ns es) (h : Rch es u v) : Rch es v u := by
  induction h with
  | here => exact .here
  | step _ a ih => exact (Rch.step .here (adj_symm hf a)).trans ih
theorem Rch.stay {S : Str → Prop} (cl : ∀ s, S s → ∀ v ∈ nbL es s, S v) (h : Rch es u v) (su : S u) : S v := by
  induction h with
  | here => exact su
  | step _ a ih => exact cl _ ih _ a
theorem walk_rch : ∀ {l : List Str} {s : Str}, Walk (Adj es) l → l.head? = some s → ∀ {t : Str}, l.getLast? = some t → Rch es s t
  | [], s, _, h, t, g => by cases h
  | [x], s, _, h, t, g => by cases h; cases g; exact .here
  | x :: y :: l, s, a, h, t, g => by
    cases h
    have g' : (y :: l).getLast? = some t := by rw [List.getLast?_cons_cons] at g; exact g
    exact (Rch.step .here a.1).trans (walk_rch a.2 rfl g')
/-- the keys of the steps to e are what e comes to -/
theorem vis_rch (hf : Fits2 ns es) (ok : VisOk es e vis) (cl : Closed ns es e (keysOf vis)) (s : Str) : s ∈ keysOf vis ↔ Rch es e s := by
  constructor
  · intro h
    obtain ⟨l, a, wk, _, g⟩ := ok.lead s h
    obtain ⟨r, rfl⟩ := a.head
    exact (walk_rch wk rfl g).symm hf
  · intro h
    exact h.stay (S := (· ∈ keysOf vis)) cl.all cl.has
theorem closed_rch {ks : List Str} (cl : Closed ns es e ks) (h : ∀ s ∈ ks, Rch es e s) (s : Str) : s ∈ ks ↔ Rch es e s := ⟨h s, fun z => z.stay (S := (· ∈ ks)) cl.all cl.has⟩
end
end Xa
/-! YE4: _law_reach. -/
namespace Xa
open PySem PySem.Spec
open PyProof.Rows L2
theorem memD_in (b : Str) (vs : List Str) : memD (.str b) (vs.map D.str) = decide (b ∈ vs) := by
  by_cases h : b ∈ vs
  · rw [memD_str h, decide_eq_true h]
  · rw [decide_eq_false h]
    unfold memD
    rw [List.any_map]
    refine List.any_eq_false.mpr fun a ha e => h ?_
    have e : PyData.eqv (.str a) (.str b) = true := e
    have : a = b := by simpa [PyData.eqv] using e
    exact this ▸ ha
theorem okIn_strs (b : Str) (vs : List Str) : okIn (.str b) (vs.map D.str) = true := by
  unfold okIn
  have : (vs.map D.str).all isAtom = true := by rw [List.all_map]; exact List.all_eq_true.mpr fun _ _ => rfl
  rw [this]; rfl
theorem fIn_lst (b : Str) (vs : List Str) : fIn (.str b) (.lst (vs.map D.str)) = some (.bl (decide (b ∈ vs))) := by
  unfold fIn
  simp only
  rw [if_pos (okIn_strs b vs), memD_in]
theorem fIn_tup (b : Str) (vs : List Str) : fIn (.str b) (.tup (vs.map D.str)) = some (.bl (decide (b ∈ vs))) := by
  unfold fIn
  simp only
  rw [if_pos (okIn_strs b vs), memD_in]
theorem fNotIn_lst (b : Str) (vs : List Str) : fNotIn (.str b) (.lst (vs.map D.str)) = some (.bl (decide (b ∉ vs))) := by
  unfold fNotIn
  rw [fIn_lst, Option.bind_some]
  by_cases h : b ∈ vs <;> simp [h]
theorem fNotIn_tup (b : Str) (vs : List Str) : fNotIn (.str b) (.tup (vs.map D.str)) = some (.bl (decide (b ∉ vs))) := by
  unfold fNotIn
  rw [fIn_tup, Option.bind_some]
  by_cases h : b ∈ vs <;> simp [h]
def reachB : DS := (sThen (sSet 2 (d1 fList (dCut (dVar 0) pNo (pAt (dC (.int 1))))))
  (sThen (sFor (dRange1 (d1 fLen (dVar 0))) (tgName 3) (sFor (dItems (dVar 1)) (tgTup [4, 5]) (sThen (sIf (tAndD (asB (d2 fIn (dVar 4) (dOwn 2))) (asB (d2 fNotIn (dVar 5) (dOwn 2)))) (sMt 2 mAppend (dCons (dVar 5) dNil)) sSkip)
  (sIf (tAndD (asB (d2 fIn (dVar 5) (dOwn 2))) (asB (d2 fNotIn (dVar 4) (dOwn 2)))) (sMt 2 mAppend (dCons (dVar 4) dNil)) sSkip))))
  (sRet (dVar 2))))
/-- one end there, the other one not yet -/
def half (fs : List Str) (a b : Str) : List Str := if a ∈ fs ∧ b ∉ fs then fs ++ [b] else fs
def pairR (fs : List Str) (x : Sec) : List Str := half (half fs x.a x.b) x.b x.a
def turnR (es : List Sec) (fs : List Str) : List Str := es.foldl pairR fs
def turnsR (es : List Sec) (fs : List Str) : Nat → List Str
  | 0 => fs
  | n + 1 => turnR es (turnsR es fs n)
theorem half_len (fs : List Str) (a b : Str) : (half fs a b).length ≤ fs.length + 1 := by
  unfold half
  split
  · simp
  · omega
section
variable {L1 L2 : D} {fs : List Str} {y3 y4 y5 : Option D} {R : D → Prop}
abbrev stR (L1 L2 : D) (fs : List Str) (y3 y4 y5 : Option D) : Gam := [some L1, some L2, some (.lst (fs.map D.str)), y3, y4, y5]
theorem does_half {i j : Nat} {a b : Str} (hi : gat (stR L1 L2 fs y3 y4 y5) i = some (.str a)) (hj : gat (stR L1 L2 fs y3 y4 y5) j = some (.str b)) (hl : fs.length < 10000) :
    Does (sIf (tAndD (asB (d2 fIn (dVar i) (dOwn 2))) (asB (d2 fNotIn (dVar j) (dOwn 2)))) (sMt 2 mAppend (dCons (dVar j) dNil)) sSkip) (stR L1 L2 fs y3 y4 y5) (· = stR L1 L2 (half fs a b) y3 y4 y5) R := by
  have s1 : SaysT (asB (d2 fIn (dVar i) (dOwn 2))) (stR L1 L2 fs y3 y4 y5) (· = decide (a ∈ fs)) := saysT_asB ((says_2 (says_var hi) (says_own rfl) (fIn_lst a fs)).mono fun d e => ⟨_, e, rfl⟩)
  have s2 : SaysT (asB (d2 fNotIn (dVar j) (dOwn 2))) (stR L1 L2 fs y3 y4 y5) (· = decide (b ∉ fs)) := saysT_asB ((says_2 (says_var hj) (says_own rfl) (fNotIn_lst b fs)).mono fun d e => ⟨_, e, rfl⟩)
  refine does_if (PT := fun c => c = decide (a ∈ fs ∧ b ∉ fs)) (saysT_and s1 (fun _ => s2) (fun c h1 h2 => ?_) fun h1 => ?_) (fun c => ?_) fun c => ?_
  · have := of_decide_eq_true h1.symm
    rw [h2]; simp [this]
  · have := of_decide_eq_false h1.symm
    simp [this]
  · have c := of_decide_eq_true c.symm
    refine does_mt draws_take (ds := fs.map D.str) rfl (PL := (· = [.str b])) (saysL_one (says_var hj)) fun es e => ?_
    subst e
    refine ⟨_, _, app_ok (by rw [List.length_map]; exact hl), ?_⟩
    have e : (fs ++ [b]).map D.str = fs.map D.str ++ [.str b] := by simp
    unfold half
    rw [if_pos c]
    show [some L1, some L2, some (.lst (fs.map D.str ++ [.str b])), y3, y4, y5] = [some L1, some L2, some (.lst ((fs ++ [b]).map D.str)), y3, y4, y5]
    rw [e]
  · have c := of_decide_eq_false c.symm
    refine does_skip ?_
    unfold half
    rw [if_neg c]
theorem pairR_len (fs : List Str) (x : Sec) : (pairR fs x).length ≤ fs.length + 2 := by
  have h1 := half_len fs x.a x.b
  have h2 := half_len (half fs x.a x.b) x.b x.a
  unfold pairR
  omega
end
end Xa
/-! YE5: _law_reach gives what a station comes to. -/
namespace Xa
open PySem PySem.Spec
open PyProof.Rows L2
/-- some of what e comes to -/
structure OkR (ns : List Str) (es : List Sec) (e : Str) (fs : List Str) : Prop where
  nd : fs.Nodup
  sub : ∀ s ∈ fs, s ∈ ns
  has : e ∈ fs
  rch : ∀ s ∈ fs, Rch es e s
section
variable {ns : List Str} {es : List Sec} {e : Str} {fs : List Str}
theorem OkR.len (h : OkR ns es e fs) : fs.length ≤ ns.length := nd_len h.nd h.sub
theorem OkR.half (h : OkR ns es e fs) {a b : Str} (hb : b ∈ ns) (j : Adj es a b) : OkR ns es e (half fs a b) := by
  unfold Xa.half
  split
  · rename_i c
    have mem : ∀ {s}, s ∈ fs ++ [b] → s ∈ fs ∨ s = b := fun {s} z => (List.mem_append.mp z).imp id List.mem_singleton.mp
    refine ⟨List.nodup_append.mpr ⟨h.nd, by simp, fun x hx y hy => ?_⟩, fun s hs => ?_, List.mem_append_left _ h.has, fun s hs => ?_⟩
    · rw [List.mem_singleton.mp hy]
      exact fun z => c.2 (z ▸ hx)
    · exact (mem hs).elim (h.sub s) fun z => z ▸ hb
    · exact (mem hs).elim (h.rch s) fun z => z ▸ (h.rch a c.1).step j
  · exact h
theorem half_sup {a b s : Str} (h : s ∈ fs) : s ∈ half fs a b := by
  unfold half
  split
  · exact List.mem_append_left _ h
  · exact h
theorem sec_adj (hf : Fits2 ns es) {x : Sec} (hx : x ∈ es) : Adj es x.a x.b ∧ Adj es x.b x.a :=
  ⟨(adj_iff hf).mpr ⟨x, hx, .inl ⟨rfl, rfl⟩⟩, (adj_iff hf).mpr ⟨x, hx, .inr ⟨rfl, rfl⟩⟩⟩
theorem OkR.pair (hf : Fits2 ns es) (h : OkR ns es e fs) {x : Sec} (hx : x ∈ es) : OkR ns es e (pairR fs x) :=
  (h.half (hf x hx).2.1 (sec_adj hf hx).1).half (hf x hx).1 (sec_adj hf hx).2
theorem OkR.fold (hf : Fits2 ns es) : ∀ {l : List Sec} {fs : List Str}, (∀ x ∈ l, x ∈ es) → OkR ns es e fs → OkR ns es e (l.foldl pairR fs)
  | [], fs, _, h => h
  | x :: l, fs, s, h => OkR.fold hf (l := l) (fun y hy => s y (List.mem_cons_of_mem _ hy)) (h.pair hf (s x List.mem_cons_self))
theorem OkR.turn (hf : Fits2 ns es) (h : OkR ns es e fs) : OkR ns es e (turnR es fs) := h.fold hf fun _ z => z
theorem OkR.turns (hf : Fits2 ns es) (h : OkR ns es e fs) : ∀ n, OkR ns es e (turnsR es fs n)
  | 0 => h
  | n + 1 => (OkR.turns hf h n).turn hf
theorem OkR.one (he : e ∈ ns) : OkR ns es e [e] := ⟨by simp, fun s hs => (List.mem_singleton.mp hs) ▸ he, List.mem_cons_self, fun s hs => (List.mem_singleton.mp hs) ▸ .here⟩
theorem half_same {a b : Str} (h : (half fs a b).length ≤ fs.length) : half fs a b = fs ∧ (a ∈ fs → b ∈ fs) := by
  unfold half at h ⊢
  split
  · rename_i c
    rw [if_pos c, List.length_append] at h
    exact absurd h (Nat.not_succ_le_self _)
  · rename_i c
    exact ⟨rfl, fun ha => Classical.byContradiction fun n => c ⟨ha, n⟩⟩
theorem half_ge (fs : List Str) (a b : Str) : fs.length ≤ (half fs a b).length := by
  unfold half
  split
  · simp
  · exact Nat.le_refl _
theorem pair_ge (fs : List Str) (x : Sec) : fs.length ≤ (pairR fs x).length := Nat.le_trans (half_ge _ _ _) (half_ge _ _ _)
theorem fold_ge : ∀ (l : List Sec) (fs : List Str), fs.length ≤ (l.foldl pairR fs).length
  | [], fs => Nat.le_refl _
  | x :: l, fs => Nat.le_trans (pair_ge fs x) (fold_ge l _)
theorem pair_same {x : Sec} (h : (pairR fs x).length ≤ fs.length) : pairR fs x = fs ∧ (x.a ∈ fs → x.b ∈ fs) ∧ (x.b ∈ fs → x.a ∈ fs) := by
  unfold pairR at h ⊢
  have h0 := half_ge fs x.a x.b
  have h1 := half_ge (half fs x.a x.b) x.b x.a
  obtain ⟨e1, c1⟩ := half_same (fs := fs) (a := x.a) (b := x.b) (by omega)
  rw [e1] at h ⊢
  obtain ⟨e2, c2⟩ := half_same h
  exact ⟨e2, c1, c2⟩
theorem fold_same : ∀ {l : List Sec} {fs : List Str}, (l.foldl pairR fs).length ≤ fs.length → l.foldl pairR fs = fs ∧ ∀ x ∈ l, (x.a ∈ fs → x.b ∈ fs) ∧ (x.b ∈ fs → x.a ∈ fs)
  | [], fs, _ => ⟨rfl, fun x z => nomatch z⟩
  | x :: l, fs, h => by
    rw [List.foldl_cons] at h ⊢
    have h1 := fold_ge l (pairR fs x)
    have h2 := pair_ge fs x
    obtain ⟨e1, c1⟩ := pair_same (fs := fs) (x := x) (by omega)
    rw [e1] at h ⊢
    obtain ⟨e2, c2⟩ := fold_same h
    exact ⟨e2, fun y hy => (List.mem_cons.mp hy).elim (fun z => z ▸ c1) (c2 y)⟩
/-- a turn that finds nothing: closed -/
theorem turn_closed (hf : Fits2 ns es) (h : OkR ns es e fs) (hl : (turnR es fs).length ≤ fs.length) : turnR es fs = fs ∧ Closed ns es e fs := by
  obtain ⟨e1, c⟩ := fold_same hl
  refine ⟨e1, h.sub, h.has, fun s hs v hv => ?_⟩
  obtain ⟨x, hx, j⟩ := (adj_iff hf).mp hv
  rcases j with ⟨j1, j2⟩ | ⟨j1, j2⟩
  · subst j1 j2; exact (c x hx).1 hs
  · subst j1 j2; exact (c x hx).2 hs
theorem turns_or (hf : Fits2 ns es) (he : e ∈ ns) : ∀ n, Closed ns es e (turnsR es [e] n) ∨ n + 1 ≤ (turnsR es [e] n).length
  | 0 => .inr (Nat.le_refl _)
  | n + 1 => by
    have ok := (OkR.one (es := es) he).turns hf n
    show Closed ns es e (turnR es (turnsR es [e] n)) ∨ n + 1 + 1 ≤ (turnR es (turnsR es [e] n)).length
    rcases Nat.lt_or_ge (turnsR es [e] n).length (turnR es (turnsR es [e] n)).length with h | h
    · rcases turns_or hf he n with c | c
      · refine .inl ⟨(ok.turn hf).sub, (ok.turn hf).has, fun s hs v hv => ?_⟩
        have r := (ok.turn hf).rch s hs
        have all := c.all v ((closed_rch c ok.rch v).mpr (r.step hv))
        exact absurd h (Nat.not_lt_of_le (nd_len (ok.turn hf).nd fun z hz => (closed_rch c ok.rch z).mpr ((ok.turn hf).rch z hz)))
      · exact .inr (by omega)
    · obtain ⟨e1, c⟩ := turn_closed hf ok h
      rw [e1]
      exact .inl c
/-- enough turns: all that e comes to -/
theorem turns_all (hf : Fits2 ns es) (he : e ∈ ns) {n : Nat} (hn : ns.length ≤ n) : (turnsR es [e] n).Nodup ∧ ∀ s, s ∈ turnsR es [e] n ↔ Rch es e s := by
  have ok := (OkR.one (es := es) he).turns hf n
  refine ⟨ok.nd, closed_rch (ns := ns) ?_ ok.rch⟩
  rcases turns_or hf he n with c | c
  · exact c
  · have := ok.len
    omega
end
end Xa
/-! YE6: _law_reach over data. -/
namespace Xa
open PySem PySem.Spec
open PyProof.Rows L2
section
variable {ns st : List Str} {es : List Sec} {e : Str} {fs : List Str} {L1 : D} {y3 y4 y5 : Option D} {R : D → Prop}
abbrev keysL (es : List Sec) : D := .lst (es.map Sec.key)
theorem does_turnR (hf : Fits2 ns es) (hn : ns.length ≤ 900) (ok : OkR ns es e fs) :
    Does (sFor (dItems (dVar 1)) (tgTup [4, 5]) (sThen (sIf (tAndD (asB (d2 fIn (dVar 4) (dOwn 2))) (asB (d2 fNotIn (dVar 5) (dOwn 2)))) (sMt 2 mAppend (dCons (dVar 5) dNil)) sSkip)
  (sIf (tAndD (asB (d2 fIn (dVar 5) (dOwn 2))) (asB (d2 fNotIn (dVar 4) (dOwn 2)))) (sMt 2 mAppend (dCons (dVar 4) dNil)) sSkip))) (stR L1 (keysL es) fs y3 y4 y5) (fun G => ∃ y4 y5, G = stR L1 (keysL es) (turnR es fs) y3 y4 y5) R := by
  let Inv : Nat → Gam → Prop := fun i G => ∃ y4 y5, G = stR L1 (keysL es) ((es.take i).foldl pairR fs) y3 y4 y5
  refine does_for (ds := es.map Sec.key) (Inv := Inv) (saysL_items (d := keysL es) (says_var rfl) rfl) ⟨y4, y5, rfl⟩ ?_ ?_
  · rintro i d G hd ⟨z4, z5, rfl⟩
    rw [List.getElem?_map] at hd
    cases hx : es[i]? with
    | none => rw [hx] at hd; cases hd
    | some x =>
      rw [hx] at hd; cases hd
      have ok1 : OkR ns es e ((es.take i).foldl pairR fs) := ok.fold hf fun z hz => List.mem_of_mem_take hz
      have hxm : x ∈ es := List.mem_of_getElem? hx
      have ok2 := ok1.half (hf x hxm).2.1 (sec_adj hf hxm).1
      have l1 := ok1.len
      have l2 := ok2.len
      have e1 : (es.take (i + 1)).foldl pairR fs = pairR ((es.take i).foldl pairR fs) x := by
        rw [List.take_add_one, hx, List.foldl_append]; rfl
      refine ⟨stR L1 (keysL es) ((es.take i).foldl pairR fs) y3 (some (.str x.a)) (some (.str x.b)), rfl, ?_⟩
      refine does_then (does_half (a := x.a) (b := x.b) rfl rfl (by omega)) fun G' eg => ?_
      subst eg
      refine (does_half (a := x.b) (b := x.a) rfl rfl (by omega)).mono (fun G eg => ?_) fun d z => z
      subst eg
      exact ⟨_, _, by rw [e1]; rfl⟩
  · rintro G ⟨z4, z5, rfl⟩
    rw [List.length_map, List.take_length]; exact ⟨z4, z5, rfl⟩
theorem tells_reach (hf : Fits2 ns es) (he : e ∈ ns) (hn : ns.length ≤ 900) {rest : List Str} (hs : rest.length ≤ 900) :
    Tells (runD 6 reachB) [.lst ((e :: rest).map D.str), keysL es] (· = .lst ((turnsR es [e] (rest.length + 1)).map D.str)) := by
  refine tells_run ?_
  have s0 : startG 6 [.lst ((e :: rest).map D.str), keysL es] = [some (.lst ((e :: rest).map D.str)), some (keysL es), none, none, none, none] := rfl
  rw [s0]
  unfold reachB
  have cut : fCut (.lst ((e :: rest).map D.str)) none (some 1) = some (.lst [.str e]) := by
    show some (D.lst (cutD ((e :: rest).map D.str) none (some 1))) = _
    unfold cutD HT.sIx
    simp
  refine does_then (Pm := (· = stR (.lst ((e :: rest).map D.str)) (keysL es) [e] none none none)) (does_set (P := (· = .lst [.str e])) (says_1 (says_cutTo2 (P' := (· = .lst [.str e])) (says_var rfl) fun d ed => by subst ed; exact ⟨_, cut, rfl⟩) rfl) fun d ed => by subst ed; rfl) fun G eg => ?_
  subst eg
  let Inv : Nat → Gam → Prop := fun i G => ∃ y3 y4 y5, G = stR (.lst ((e :: rest).map D.str)) (keysL es) (turnsR es [e] i) y3 y4 y5
  have ln : fLen (.lst ((e :: rest).map D.str)) = some (.int ((rest.length + 1 : Nat) : Int)) := by
    unfold fLen
    simp
  refine does_then (Pm := fun G => ∃ y3 y4 y5, G = stR (.lst ((e :: rest).map D.str)) (keysL es) (turnsR es [e] (rest.length + 1)) y3 y4 y5) (does_for (ds := rangeD 0 ((rest.length + 1 : Nat) : Int)) (Inv := Inv) (saysL_range1 (Q := (· = ((rest.length + 1 : Nat) : Int))) ((says_1 (says_var rfl) ln).mono fun d ed => ⟨_, ed, rfl⟩) fun i ei => by subst ei; exact ⟨by omega, rfl⟩) ⟨_, _, _, rfl⟩ ?_ ?_) fun G ⟨y3, y4, y5, eg⟩ => ?_
  · rintro i d G hd ⟨z3, z4, z5, rfl⟩
    refine ⟨stR (.lst ((e :: rest).map D.str)) (keysL es) (turnsR es [e] i) (some d) z4 z5, rfl, ?_⟩
    exact (does_turnR hf hn ((OkR.one he).turns hf i)).mono (fun G ⟨q4, q5, eg⟩ => ⟨_, q4, q5, eg⟩) fun d z => z
  · rintro G ⟨z3, z4, z5, rfl⟩
    refine ⟨z3, z4, z5, ?_⟩
    rw [rangeD_len]
    rfl
  · subst eg
    exact does_ret (says_var rfl)
end
end Xa
/-! YE7: links_of over keys. -/
namespace Xa
open PySem PySem.Spec PyProof.Rows L2 TL
theorem says_atK (j : Nat) {G : Gam} {i : Nat} {x : Sec} {u : D} (h : gat G i = some x.key) (hj : [D.str x.a, .str x.b][j]? = some u) : Says (d2 fIdx (dVar i) (dC (.int j))) G (· = u) := says_d2 (says_var h) says_c fun d e e1 e2 => by
  subst e1 e2
  exact ⟨_, atI_nat hj, rfl⟩
/-- links_of, the sections as their keys -/
theorem tells_linksK {ns : List Str} {es : List Sec} (nd : ns.Nodup) (hf : Fits2 ns es) (hl : es.length ≤ 900) (hn : ns.length ≤ 900) : Tells (runD 5 linksB) [.tup (ns.map D.str), keysL es] (· = .dic (nearK ns (nbL es))) := by
  refine tells_run ?_
  unfold linksB
  generalize hS : (.tup (ns.map D.str) : D) = S
  generalize hE : keysL es = E
  have s0 : startG 5 [S, E] = [some S, some E, none, none, none] := rfl
  rw [s0]
  let In : Nat → Gam → Prop := fun i G => ∃ y, G = [some S, some E, some (.dic (nearK ns (nbL (es.take i)))), y, none]
  refine does_then (Pm := In 0) (does_set (P := (· = .dic (nearK ns fun _ => []))) (fun B g => ⟨_, B, ?_, g, rfl⟩) fun d e => by subst e; exact ⟨none, rfl⟩) fun G h => ?_
  · unfold dDc dItems dVar
    show (Option.bind (Option.bind (some (S, B)) fun p => (items p.1).map fun ds => (ds, p.2)) _) = _
    rw [← hS]
    simp only [Option.bind_some, items, Option.map_some]
    rw [if_pos (line1000 (by rw [List.length_map]; omega))]
    have := dcGo_near (j := 4) (G := wipeG [some (.tup (ns.map D.str)), some E, none, none, none] [4]) (by simp [wipeG]) ns [] B g nd
    rw [show (nearK [] fun _ => []) = [] from rfl] at this
    rw [show (dcGo (tgName 4) dYes (fun G B => (gat G 4).map fun d => (d, B)) (dOp semLst dNil) _ (ns.map D.str) [] B) = _ from this]
    rfl
  · obtain ⟨y0, rfl⟩ := h
    refine does_then (Pm := In es.length) (does_for (ds := es.map Sec.key) (Inv := In) (saysL_items (d := E) (says_var rfl) (by rw [← hE]; rfl)) ⟨y0, rfl⟩ ?_ fun G h => by rw [List.length_map] at h; exact h) fun G ⟨y, e⟩ => ?_
    · rintro i d G hd ⟨y, rfl⟩
      rw [List.getElem?_map] at hd
      cases hx : es[i]? with
      | none => rw [hx] at hd; cases hd
      | some x =>
        rw [hx] at hd; cases hd
        obtain ⟨ha, hb, hne⟩ := hf x (List.mem_of_getElem? hx)
        have hll : ∀ w, (nbL (es.take i) w).length ≤ 900 := fun w => Nat.le_trans (nb_len _ _) (by rw [List.length_take]; omega)
        refine ⟨_, rfl, ?_⟩
        refine does_then (Pm := fun G => G = [some S, some E, some (.dic (nearK ns fun w => if w = x.a then nbL (es.take i) x.a ++ [x.b] else nbL (es.take i) w)), some x.key, none]) (does_nest (ns := ns) (f := nbL (es.take i)) (u := x.a) (v := x.b) rfl nd ha (says_atK 0 (x := x) rfl rfl) (says_atK 1 (x := x) rfl rfl) (Nat.le_trans (hll _) (by decide)) rfl) fun G e => ?_
        subst e
        refine does_nest (ns := ns) (f := fun w => if w = x.a then nbL (es.take i) x.a ++ [x.b] else nbL (es.take i) w) (u := x.b) (v := x.a) rfl nd hb (says_atK 1 (x := x) rfl rfl) (says_atK 0 (x := x) rfl rfl) (by simp only [if_neg (Ne.symm hne)]; exact Nat.le_trans (hll _) (by decide)) ⟨some x.key, ?_⟩
        have e := nbL_snoc (es := es.take i) hne
        show [some S, some E, some (D.dic (nearK ns _)), some x.key, none] = [some S, some E, some (D.dic (nearK ns (nbL (es.take (i + 1))))), some x.key, none]
        rw [take_snoc hx, ← e]
    · subst e
      rw [List.take_length]
      exact does_ret (says_var rfl)
end Xa
/-! YE8: comprehensions over things that are shown; border and inner. -/
namespace Xa
open PySem PySem.Spec
open PyProof.Rows L2
section
variable {α : Type} {src : DA} {j : Nat} {u : DT} {f : DE} {G : Gam} {g o : α → D} {keep : α → Bool}
theorem compGo_filt {tgt : TgD} {G0 : Gam} : ∀ {l : List α}, (∀ x ∈ l, ∃ G1, tgt G0 (g x) = some G1 ∧ SaysT u G1 (· = keep x) ∧ (keep x = true → Says f G1 (· = o x))) → ∀ B, GoodB B → ∃ B', compGo tgt u f G0 (l.map g) B = some ((l.filter keep).map o, B') ∧ GoodB B'
  | [], _, B, gb => ⟨B, rfl, gb⟩
  | x :: r, h, B, gb => by
    obtain ⟨G1, e1, h2, h3⟩ := h x List.mem_cons_self
    obtain ⟨c, B1, e2, g1, rfl⟩ := h2 B gb
    have hr : ∀ y ∈ r, _ := fun y hy => h y (List.mem_cons_of_mem _ hy)
    rw [List.map_cons]
    unfold compGo
    rw [e1, Option.bind_some, e2, Option.bind_some]
    cases hk : keep x with
    | true =>
      obtain ⟨y, B2, e3, g2, rfl⟩ := h3 hk B1 g1
      obtain ⟨B3, e4, g3⟩ := compGo_filt hr B2 g2
      refine ⟨B3, ?_, g3⟩
      rw [List.filter_cons_of_pos hk]
      simp only [if_true]
      rw [e3, Option.bind_some]
      simp only
      rw [e4]; rfl
    | false =>
      obtain ⟨B3, e4, g3⟩ := compGo_filt hr B1 g1
      refine ⟨B3, ?_, g3⟩
      rw [List.filter_cons_of_neg (by rw [hk]; exact Bool.false_ne_true)]
      simp only [Bool.false_eq_true, if_false]; exact e4
/-- [f(x) for x in l if u(x)] -/
theorem says_filt {l : List α} (h : SaysL src G (· = l.map g)) (hl : l.length ≤ 1000) (hj : j < G.length)
    (step : ∀ x ∈ l, ∀ G1, gat G1 j = some (g x) → (∀ i d, i ≠ j → gat G i = some d → gat G1 i = some d) → SaysT u G1 (· = keep x) ∧ (keep x = true → Says f G1 (· = o x))) : Says (dComp src [j] (tgName j) u f) G (· = .lst ((l.filter keep).map o)) := fun B gb => by
  obtain ⟨ds, B1, e1, g1, rfl⟩ := h B gb
  obtain ⟨B2, e2, g2⟩ := compGo_filt (u := u) (f := f) (g := g) (o := o) (keep := keep) (l := l) (tgt := tgName j) (G0 := wipeG G [j]) (fun x hx => ⟨_, rfl, step x hx _ (gat_set (by show j < (G.set j none).length; rw [List.length_set]; exact hj)) fun i d hi e => gat_w (k := 0) e hi _ _⟩) B1 g1
  refine ⟨_, B2, ?_, g2, rfl⟩
  unfold dComp
  rw [e1, Option.bind_some]
  simp only
  rw [if_pos (line1000 (by rw [List.length_map]; omega)), e2]; rfl
/-- [f(x) for x in l] -/
theorem says_mapped {l : List α} (h : SaysL src G (· = l.map g)) (hl : l.length ≤ 1000) (hj : j < G.length)
    (step : ∀ x ∈ l, ∀ G1, gat G1 j = some (g x) → (∀ i d, i ≠ j → gat G i = some d → gat G1 i = some d) → Says f G1 (· = o x)) : Says (dComp src [j] (tgName j) dYes f) G (· = .lst (l.map o)) := by
  have t := says_filt (u := dYes) (f := f) (o := o) (keep := fun _ => true) h hl hj fun x hx G1 a b => ⟨fun B gb => ⟨true, B, rfl, gb, rfl⟩, fun _ => step x hx G1 a b⟩
  rw [List.filter_eq_self.mpr fun _ _ => rfl] at t
  exact t
end
def borderB (Ky : FD) : DS := (sRet (d1 fTuple (dComp (dItems (dCall Ky (dCons (dVar 0) dNil))) [2] (tgName 2) (asB (d2 fNe (d2 fIn (d2 fIdx (dVar 2) (dC (.int 0))) (dVar 1)) (d2 fIn (d2 fIdx (dVar 2) (dC (.int 1))) (dVar 1)))) (dVar 2))))
def innerB (Ky : FD) : DS := (sRet (d1 fTuple (dComp (dItems (dCall Ky (dCons (dVar 0) dNil))) [2] (tgName 2) (tAndD (asB (d2 fIn (d2 fIdx (dVar 2) (dC (.int 0))) (dVar 1))) (asB (d2 fIn (d2 fIdx (dVar 2) (dC (.int 1))) (dVar 1)))) (dVar 2))))
section
variable {ns : D} {es : List Sec} {ps : List Str} {G : Gam} {i j : Nat} {x : Sec}
theorem says_endK (k : Nat) {w : Str} (h : gat G i = some x.key ∨ gat G i = some x.d) (hk : [x.a, x.b][k]? = some w) : Says (d2 fIdx (dVar i) (dC (.int k))) G (· = .str w) := by
  have hk2 : k = 0 ∨ k = 1 := by
    rcases k with _ | _ | k
    · exact .inl rfl
    · exact .inr rfl
    · cases hk
  rcases h with h | h <;> rcases hk2 with rfl | rfl <;> cases hk <;> exact says_2 (says_var h) says_c (atI_nat rfl)
theorem says_inP (k : Nat) {w : Str} (h : gat G i = some x.key ∨ gat G i = some x.d) (hk : [x.a, x.b][k]? = some w) (hp : gat G j = some (.tup (ps.map D.str))) : Says (d2 fIn (d2 fIdx (dVar i) (dC (.int k))) (dVar j)) G (· = .bl (decide (w ∈ ps))) :=
  says_2 (says_endK k h hk) (says_var hp) (fIn_tup w ps)
/-- one end within, the other one not -/
def crossP (ps : List Str) (x : Sec) : Bool := decide (x.a ∈ ps) != decide (x.b ∈ ps)
def withinP (ps : List Str) (x : Sec) : Bool := decide (x.a ∈ ps) && decide (x.b ∈ ps)
theorem saysT_cross (h : gat G i = some x.key ∨ gat G i = some x.d) (hp : gat G j = some (.tup (ps.map D.str))) : SaysT (asB (d2 fNe (d2 fIn (d2 fIdx (dVar i) (dC (.int 0))) (dVar j)) (d2 fIn (d2 fIdx (dVar i) (dC (.int 1))) (dVar j)))) G (· = crossP ps x) :=
  saysT_asB ((says_2 (says_inP 0 h rfl hp) (says_inP 1 h rfl hp) (r := .bl (crossP ps x)) (by
    unfold crossP
    cases decide (x.a ∈ ps) <;> cases decide (x.b ∈ ps) <;> rfl)).mono fun d e => ⟨_, e, rfl⟩)
theorem saysT_within (h : gat G i = some x.key ∨ gat G i = some x.d) (hp : gat G j = some (.tup (ps.map D.str))) : SaysT (tAndD (asB (d2 fIn (d2 fIdx (dVar i) (dC (.int 0))) (dVar j))) (asB (d2 fIn (d2 fIdx (dVar i) (dC (.int 1))) (dVar j)))) G (· = withinP ps x) := by
  refine saysT_and (P1 := (· = decide (x.a ∈ ps))) (P2 := (· = decide (x.b ∈ ps))) (saysT_asB ((says_inP 0 h rfl hp).mono fun d e => ⟨_, e, rfl⟩)) (fun _ => saysT_asB ((says_inP 1 h rfl hp).mono fun d e => ⟨_, e, rfl⟩)) (fun c h1 h2 => ?_) fun h1 => ?_
  · unfold withinP; rw [← h1, h2]; rfl
  · unfold withinP; rw [← h1]; rfl
theorem tells_border (hl : es.length ≤ 1000) : Tells (runD 3 (borderB (runD 2 keysB))) [.tup [ns, .tup (es.map Sec.d)], .tup (ps.map D.str)] (· = .tup ((es.filter (crossP ps)).map Sec.key)) := by
  refine tells_run (does_ret (says_1 (says_filt (l := es) (g := Sec.key) (o := Sec.key) (keep := crossP ps) (saysL_items (d := .tup (es.map Sec.key)) (says_call1 (says_var rfl) (tells_keys hl)) rfl) hl (by show 2 < 3; decide) fun x hx G1 h1 h2 => ⟨saysT_cross (.inl h1) (h2 1 _ (by decide) rfl), fun _ => says_var h1⟩) rfl))
theorem tells_inner (hl : es.length ≤ 1000) : Tells (runD 3 (innerB (runD 2 keysB))) [.tup [ns, .tup (es.map Sec.d)], .tup (ps.map D.str)] (· = .tup ((es.filter (withinP ps)).map Sec.key)) := by
  refine tells_run (does_ret (says_1 (says_filt (l := es) (g := Sec.key) (o := Sec.key) (keep := withinP ps) (saysL_items (d := .tup (es.map Sec.key)) (says_call1 (says_var rfl) (tells_keys hl)) rfl) hl (by show 2 < 3; decide) fun x hx G1 h1 h2 => ⟨saysT_within (.inl h1) (h2 1 _ (by decide) rfl), fun _ => says_var h1⟩) rfl))
end
end Xa
/-! YE9: _law_is_part_right; _law_flat. -/
namespace Xa
open PySem PySem.Spec
open PyProof.Rows L2
abbrev borderF : FD := runD 3 (borderB keysF)
abbrev innerF : FD := runD 3 (innerB keysF)
noncomputable def partRightB : DS := (sThen (sSet 2 (d1 fTuple (dComp (dItems (d2 fIdx (dVar 0) (dC (.int 1)))) [4] (tgName 4) (asB (d2 fNe (d2 fIn (d2 fIdx (dVar 4) (dC (.int 0))) (dVar 1)) (d2 fIn (d2 fIdx (dVar 4) (dC (.int 1))) (dVar 1)))) (dCut (dVar 4) pNo (pAt (dC (.int 2)))))))
  (sThen (sSet 3 (d1 fTuple (dComp (dItems (d2 fIdx (dVar 0) (dC (.int 1)))) [4] (tgName 4) (tAndD (asB (d2 fIn (d2 fIdx (dVar 4) (dC (.int 0))) (dVar 1))) (asB (d2 fIn (d2 fIdx (dVar 4) (dC (.int 1))) (dVar 1)))) (dCut (dVar 4) pNo (pAt (dC (.int 2)))))))
  (sRet (dCall alikeF (dCons (dOp semLst (dCons (dCall borderF (dCons (dVar 0) (dCons (dVar 1) dNil))) (dCons (dCall innerF (dCons (dVar 0) (dCons (dVar 1) dNil))) dNil))) (dCons (dOp semLst (dCons (dVar 2) (dCons (dVar 3) dNil))) dNil))))))
section
variable {m : Nat} {sorts ns : List Str} {es : List Sec} {L : D} {ps : List Str}
theorem LineOf.nKs (h : LineOf m sorts ns es L) (hm : m ≤ 24) {l : List Sec} (hl : ∀ x ∈ l, x ∈ es) (hc : l.length ≤ 24) : Nice 2 648 (.tup (l.map Sec.key)) :=
  nice_tup (k := 1) (n := 26) (c := 24) (fun d hd => by
    obtain ⟨x, hx, rfl⟩ := List.mem_map.mp hd
    exact h.nK (h.fits x (hl x hx)).1 (h.fits x (hl x hx)).2.1) (by rw [List.length_map]; exact hc)
theorem LineOf.el (h : LineOf m sorts ns es L) (hm : m ≤ 24) : es.length ≤ 24 := by rw [h.elen]; omega
theorem tells_partRight (h : LineOf m sorts ns es L) (hm : m ≤ 24) : Tells (runD 5 partRightB) [L, .tup (ps.map D.str)] (· = .bl true) := by
  have el := h.el hm
  have f1 : (es.filter (crossP ps)).length ≤ 24 := Nat.le_trans (List.length_filter_le _ _) el
  have f2 : (es.filter (withinP ps)).length ≤ 24 := Nat.le_trans (List.length_filter_le _ _) el
  refine tells_run ?_
  have s0 : startG 5 [L, .tup (ps.map D.str)] = [some L, some (.tup (ps.map D.str)), none, none, none] := rfl
  rw [s0]
  unfold partRightB
  refine does_then (Pm := (· = [some L, some (.tup (ps.map D.str)), some (.tup ((es.filter (crossP ps)).map Sec.key)), none, none])) (does_set (P := (· = .tup ((es.filter (crossP ps)).map Sec.key))) (says_1 (says_filt (l := es) (g := Sec.d) (o := Sec.key) (keep := crossP ps) (saysL_items (h.says1 rfl) rfl) (by omega) (by show 4 < 5; decide) fun x hx G1 h1 h2 => ⟨saysT_cross (.inr h1) (h2 1 _ (by decide) rfl), fun _ => says_cut2 h1⟩) rfl) fun d e => by subst e; rfl) fun G e => ?_
  subst e
  refine does_then (Pm := (· = [some L, some (.tup (ps.map D.str)), some (.tup ((es.filter (crossP ps)).map Sec.key)), some (.tup ((es.filter (withinP ps)).map Sec.key)), none])) (does_set (P := (· = .tup ((es.filter (withinP ps)).map Sec.key))) (says_1 (says_filt (l := es) (g := Sec.d) (o := Sec.key) (keep := withinP ps) (saysL_items (h.says1 rfl) rfl) (by omega) (by show 4 < 5; decide) fun x hx G1 h1 h2 => ⟨saysT_within (.inr h1) (h2 1 _ (by decide) rfl), fun _ => says_cut2 h1⟩) rfl) fun d e => by subst e; rfl) fun G e => ?_
  subst e
  have two : Nice 3 1298 (.lst [.tup ((es.filter (crossP ps)).map Sec.key), .tup ((es.filter (withinP ps)).map Sec.key)]) := nice_lst (k := 2) (n := 648) (c := 2) (fun d hd => by
    rcases List.mem_cons.mp hd with e | hd
    · subst e; exact h.nKs hm (fun x hx => (List.mem_filter.mp hx).1) f1
    · rw [List.mem_singleton.mp hd]; exact h.nKs hm (fun x hx => (List.mem_filter.mp hx).1) f2) (Nat.le_refl _)
  have b : Tells borderF [L, .tup (ps.map D.str)] (· = .tup ((es.filter (crossP ps)).map Sec.key)) := by rw [h.eq]; exact tells_border (by omega)
  have i : Tells innerF [L, .tup (ps.map D.str)] (· = .tup ((es.filter (withinP ps)).map Sec.key)) := by rw [h.eq]; exact tells_inner (by omega)
  exact does_ret (says_call2 (says_lst (saysL_2 (says_call2 (says_var rfl) (says_var rfl) b) (says_call2 (says_var rfl) (says_var rfl) i)) (by simp)) (says_lst (saysL_2 (says_var rfl) (says_var rfl)) (by simp)) (nice_alike two (by decide) (by decide)))
end
noncomputable def flatB : DS := (sThen (sSet 1 (dOp semLst dNil))
  (sThen (sFor (dItems (dVar 0)) (tgName 2) (sMt 1 mExtend (dCons (dVar 2) dNil)))
  (sRet (dVar 1))))
theorem flat_len : ∀ (ls : List (List D)) (n : Nat), (∀ l ∈ ls, l.length ≤ n) → ls.flatten.length ≤ ls.length * n
  | [], n, _ => Nat.zero_le _
  | l :: r, n, h => by
    have h1 := h l List.mem_cons_self
    have h2 := flat_len r n fun z hz => h z (List.mem_cons_of_mem _ hz)
    rw [List.flatten_cons, List.length_append, List.length_cons, Nat.succ_mul]
    omega
theorem tells_flat {ls : List (List D)} (hl : ls.flatten.length ≤ 1000) : Tells (runD 3 flatB) [.lst (ls.map D.lst)] (· = .lst ls.flatten) := by
  refine tells_run ?_
  have s0 : startG 3 [.lst (ls.map D.lst)] = [some (.lst (ls.map D.lst)), none, none] := rfl
  rw [s0]
  unfold flatB
  refine does_then (Pm := (· = [some (.lst (ls.map D.lst)), some (.lst []), none])) (does_set (P := (· = .lst [])) (says_lst saysL_nil (by simp)) fun d e => by subst e; rfl) fun G e => ?_
  subst e
  let Inv : Nat → Gam → Prop := fun i G => ∃ y, G = [some (.lst (ls.map D.lst)), some (.lst (ls.take i).flatten), y]
  refine does_then (Pm := fun G => ∃ y, G = [some (.lst (ls.map D.lst)), some (.lst ls.flatten), y]) (does_for (ds := ls.map D.lst) (Inv := Inv) (saysL_items (d := .lst (ls.map D.lst)) (says_var rfl) rfl) ⟨none, rfl⟩ ?_ ?_) fun G ⟨y, e⟩ => ?_
  · rintro i d G hd ⟨y, rfl⟩
    rw [List.getElem?_map] at hd
    cases hx : ls[i]? with
    | none => rw [hx] at hd; cases hd
    | some l =>
      rw [hx] at hd; cases hd
      have e1 : (ls.take (i + 1)).flatten = (ls.take i).flatten ++ l := by rw [List.take_add_one, hx, List.flatten_append]; simp
      have e2 : (ls.take (i + 1)).flatten.length ≤ 1000 := by
        have : ls.flatten = (ls.take (i + 1)).flatten ++ (ls.drop (i + 1)).flatten := by rw [← List.flatten_append, List.take_append_drop]
        rw [this, List.length_append] at hl
        omega
      refine ⟨[some (.lst (ls.map D.lst)), some (.lst (ls.take i).flatten), some (.lst l)], rfl, does_mt draws_take (ds := (ls.take i).flatten) rfl (PL := (· = [.lst l])) (saysL_one (says_var rfl)) fun es ee => ?_⟩
      subst ee
      rw [e1, List.length_append] at e2
      refine ⟨_, _, by unfold mExtend; simp only; rw [if_pos (line1000 (by omega))], some (.lst l), ?_⟩
      rw [← e1]; rfl
  · rintro G ⟨y, rfl⟩
    rw [List.length_map, List.take_length]; exact ⟨y, rfl⟩
  · subst e
    exact does_ret (says_var rfl)
end Xa
/-! YE10: a lot of sections; what has been seen. -/
namespace Xa
open PySem PySem.Spec
open PyProof.Rows L2
/-- not among the keys of lt -/
def notLot (lt : List Sec) (x : Sec) : Bool := !(lt.any fun y => decide (y.a = x.a ∧ y.b = x.b))
section
variable {m : Nat} {sorts ns : List Str} {es lt : List Sec} {L : D} {G : Gam} {i j : Nat} {x : Sec}
theorem memD_keys (lt : List Sec) (x : Sec) : memD x.key (lt.map Sec.key) = lt.any fun y => decide (y.a = x.a ∧ y.b = x.b) := by
  unfold memD
  rw [List.any_map]
  congr 1
  funext y
  show PyData.eqv (py (.tup [.str y.a, .str y.b])) (py (.tup [.str x.a, .str x.b])) = _
  simp only [py, pyL]
  by_cases h1 : y.a = x.a <;> by_cases h2 : y.b = x.b <;> simp [PyData.eqv, PyData.eqvAll, h1, h2]
theorem fIn_keys (sx : shp x.key = true) (sl : shp (.lst (lt.map Sec.key)) = true) : fNotIn x.key (.tup (lt.map Sec.key)) = some (.bl (notLot lt x)) := by
  unfold fNotIn fIn
  simp only
  have ok : okIn x.key (lt.map Sec.key) = true := by
    unfold okIn
    rw [sx, sl]
    simp
  rw [if_pos ok, memD_keys]
  rfl
theorem LineOf.shK (h : LineOf m sorts ns es L) {x : Sec} (hx : x ∈ es) : shp x.key = true := (h.nK (h.fits x hx).1 (h.fits x hx).2.1).sh (by decide)
theorem LineOf.shKs (h : LineOf m sorts ns es L) (hm : m ≤ 24) {l : List Sec} (hl : ∀ x ∈ l, x ∈ es) (hc : l.length ≤ 24) : shp (.lst (l.map Sec.key)) = true :=
  (nice_lst (k := 1) (n := 26) (c := 24) (fun d hd => by
    obtain ⟨x, hx, rfl⟩ := List.mem_map.mp hd
    exact h.nK (h.fits x (hl x hx)).1 (h.fits x (hl x hx)).2.1) (by rw [List.length_map]; exact hc)).sh (by decide)
theorem saysT_notLot (h : LineOf m sorts ns es L) (hm : m ≤ 24) (hl : ∀ x ∈ lt, x ∈ es) (hc : lt.length ≤ 24) {f : DE} (hx : x ∈ es) (hf : Says f G (· = x.key)) (hj : gat G j = some (.tup (lt.map Sec.key))) : SaysT (asB (d2 fNotIn f (dVar j))) G (· = notLot lt x) :=
  saysT_asB ((says_2 hf (says_var hj) (fIn_keys (h.shK hx) (h.shKs hm hl hc))).mono fun d e => ⟨_, e, rfl⟩)
theorem fits_filter (hf : Fits2 ns es) (p : Sec → Bool) : Fits2 ns (es.filter p) := fun x hx => hf x (List.mem_filter.mp hx).1
end
/-- what has been seen, as a dict -/
def seenK (sn : List Str) : List (D × D) := sn.map fun s => (D.str s, D.bl true)
def put1 (sn : List Str) (s : Str) : List Str := if s ∈ sn then sn else sn ++ [s]
theorem seen_any (sn : List Str) (s : Str) : ((seenK sn).any fun p => keq p.1 (.str s)) = decide (s ∈ sn) := by
  unfold seenK
  rw [List.any_map]
  by_cases h : s ∈ sn
  · rw [decide_eq_true h]
    refine List.any_eq_true.mpr ⟨s, h, ?_⟩
    show keq (.str s) (.str s) = true
    rw [keq_str]; simp
  · rw [decide_eq_false h]
    refine List.any_eq_false.mpr fun t ht => ?_
    show ¬ keq (.str t) (.str s) = true
    rw [keq_str]
    simp only [decide_eq_true_eq]
    exact fun e => h (e ▸ ht)
theorem seen_put (sn : List Str) (s : Str) : dicPut (seenK sn) (.str s) (.bl true) = seenK (put1 sn s) := by
  unfold dicPut put1
  rw [seen_any]
  by_cases h : s ∈ sn
  · rw [decide_eq_true h, if_pos rfl, if_pos h]
    unfold seenK
    rw [List.map_map]
    refine List.map_congr_left fun t _ => ?_
    show (if keq (.str t) (.str s) = true then (D.str t, D.bl true) else (D.str t, D.bl true)) = _
    split <;> rfl
  · rw [decide_eq_false h, if_neg Bool.false_ne_true, if_neg h]
    unfold seenK
    rw [List.map_append]; rfl
theorem seen_ok (sn : List Str) (s : Str) : okK (seenK sn) (.str s) = true := by
  unfold okK seenK
  cases sn <;> rfl
theorem seen_notIn (sn : List Str) (s : Str) : fNotIn (.str s) (.dic (seenK sn)) = some (.bl (decide (s ∉ sn))) := by
  unfold fNotIn fIn
  simp only
  rw [if_pos (seen_ok sn s), Option.bind_some]
  have e : (dicFind (seenK sn) (.str s)).isSome = decide (s ∈ sn) := by
    rw [← seen_any]
    unfold dicFind
    rw [Option.isSome_map, Bool.eq_iff_iff, List.find?_isSome, List.any_eq_true]
  rw [e]
  by_cases h : s ∈ sn <;> simp [h]
theorem put1_len (sn : List Str) (s : Str) : (put1 sn s).length ≤ sn.length + 1 := by
  unfold put1; split <;> simp
theorem put1_mem {sn : List Str} {s t : Str} : t ∈ put1 sn s ↔ t ∈ sn ∨ t = s := by
  unfold put1
  split
  · rename_i h
    exact ⟨.inl, fun z => z.elim id fun e => e ▸ h⟩
  · simp
theorem put1_nd {sn : List Str} (h : sn.Nodup) (s : Str) : (put1 sn s).Nodup := by
  unfold put1
  split
  · exact h
  · rename_i n
    exact List.nodup_append.mpr ⟨h, by simp, fun x hx y hy => by rw [List.mem_singleton.mp hy]; exact fun z => n (z ▸ hx)⟩
theorem puts_mem : ∀ (l sn : List Str) (t : Str), t ∈ l.foldl put1 sn ↔ t ∈ sn ∨ t ∈ l
  | [], sn, t => by simp
  | s :: l, sn, t => by rw [List.foldl_cons, puts_mem l, put1_mem, List.mem_cons, or_assoc]
theorem puts_nd : ∀ (l sn : List Str), sn.Nodup → (l.foldl put1 sn).Nodup
  | [], sn, h => h
  | s :: l, sn, h => puts_nd l _ (put1_nd h s)
end Xa
/-! YE11: cut. -/
namespace Xa
open PySem PySem.Spec
open PyProof.Rows L2
open Classical in
/-- what s comes to, in order -/
noncomputable def cmpS (ns : List Str) (es : List Sec) (s : Str) : List Str := sortS (ns.filter fun v => decide (Rch es s v))
open Classical in
noncomputable def stepP (ns : List Str) (es : List Sec) (P : List (List Str)) (s : Str) : List (List Str) := if ∃ p ∈ P, s ∈ p then P else P ++ [cmpS ns es s]
/-- the parts, one by one -/
noncomputable def partsL (ns : List Str) (es : List Sec) (l : List Str) : List (List Str) := l.foldl (stepP ns es) []
def tupS (p : List Str) : D := .tup (p.map D.str)
section
variable {m : Nat} {sorts ns : List Str} {es lt : List Sec} {L : D} {s : Str}
theorem cmpS_mem {v : Str} : v ∈ cmpS ns es s ↔ v ∈ ns ∧ Rch es s v := by
  unfold cmpS
  rw [(sortS_perm _).mem_iff, List.mem_filter]
  simp
theorem cmpS_nd (nd : ns.Nodup) : (cmpS ns es s).Nodup := (sortS_perm _).nodup_iff.mpr (nd.filter _)
theorem Rch.inN (hf : Fits2 ns es) (hs : s ∈ ns) {v : Str} (h : Rch es s v) : v ∈ ns := h.stay (S := (· ∈ ns)) (fun u hu v hv => by
  obtain ⟨x, hx, j⟩ := (adj_iff hf).mp hv
  exact j.elim (fun z => z.2 ▸ (hf x hx).2.1) fun z => z.1 ▸ (hf x hx).1) hs
theorem cmpS_eq (hf : Fits2 ns es) (nd : ns.Nodup) (hs : s ∈ ns) {ks : List Str} (kd : ks.Nodup) (h : ∀ v, v ∈ ks ↔ Rch es s v) : sortS ks = cmpS ns es s := by
  unfold cmpS
  refine sortS_mem kd (nd.filter _) fun v => ?_
  rw [h, List.mem_filter]
  simp only [decide_eq_true_eq]
  exact ⟨fun z => ⟨z.inN hf hs, z⟩, fun z => z.2⟩
theorem partsL_snoc (l : List Str) (s : Str) : partsL ns es (l ++ [s]) = stepP ns es (partsL ns es l) s := by unfold partsL; rw [List.foldl_append]; rfl
theorem stepP_len (P : List (List Str)) (s : Str) : (stepP ns es P s).length ≤ P.length + 1 := by
  unfold stepP
  split <;> simp
noncomputable def cutB (Ks Lk St : FD) : DS := (sThen (sSet 2 (dCall Lk (dCons (d2 fIdx (dVar 0) (dC (.int 0))) (dCons (dComp (dItems (dCall Ks (dCons (dVar 0) dNil))) [8] (tgName 8) (asB (d2 fNotIn (dVar 8) (dVar 1))) (dVar 8)) dNil))))
  (sThen (sSet 3 (dOp semLst dNil))
  (sThen (sSet 4 (fun _ B => some (.dic [], B)))
  (sThen (sFor (dItems (d2 fIdx (dVar 0) (dC (.int 0)))) (tgName 5) (sIf (asB (d2 fNotIn (dVar 5) (dOwn 4))) (sThen (sSet 6 (d1 fTuple (d1 fSortedD (dCall St (dCons (dVar 2) (dCons (dVar 5) dNil))))))
  (sThen (sMt 3 mAppend (dCons (dVar 6) dNil))
  (sFor (dItems (dVar 6)) (tgName 7) (sDicPut 4 (dVar 7) (dC (.bl true)))))) sSkip))
  (sRet (d1 fTupleL (dOwn 3)))))))
abbrev stC (L lot links : D) (P : List (List Str)) (sn : List Str) (y5 y6 y7 : Option D) : Gam := [some L, some lot, some links, some (.lst (P.map tupS)), some (.dic (seenK sn)), y5, y6, y7, none]
/-- one station's part -/
theorem says_comp1 {G : Gam} {i j : Nat} (h : LineOf m sorts ns es L) (hm : m ≤ 24) (p : Sec → Bool) (hs : s ∈ ns) (hi : gat G i = some (.dic (nearK ns (nbL (es.filter p))))) (hj : gat G j = some (.str s)) :
    Says (d1 fTuple (d1 fSortedD (dCall stepsF (dCons (dVar i) (dCons (dVar j) dNil))))) G (· = tupS (cmpS ns (es.filter p) s)) := by
  have hf := fits_filter h.fits p
  have nl : ns.length = m := h.nms.len
  refine says_d1 (P1 := (· = .lst ((cmpS ns (es.filter p) s).map D.str))) (says_d1 (says_call2 (says_var hi) (says_var hj) (tells_stepsG hf hs (by omega))) fun d ⟨vis, e, ok, cl⟩ => ?_) fun d e => by subst e; exact ⟨_, rfl, rfl⟩
  subst e
  have ek : (visK vis).map (·.1) = (keysOf vis).map D.str := by unfold visK keysOf; rw [List.map_map, List.map_map]; rfl
  have kn := nd_len ok.nd cl.sub
  exact ⟨_, fSortedD_strs ek (fun w hw => h.layN w (cl.sub w hw)) (by omega), by rw [cmpS_eq hf h.nms.nd hs ok.nd (vis_rch hf ok cl)]⟩
theorem tells_cut (h : LineOf m sorts ns es L) (hm : m ≤ 24) (hl : ∀ x ∈ lt, x ∈ es) (hc : lt.length ≤ 24) :
    Tells (runD 9 (cutB keysF linksF stepsF)) [L, .tup (lt.map Sec.key)] (· = .tup ((partsL ns (es.filter (notLot lt)) ns).map tupS)) := by
  have hf := fits_filter h.fits (notLot lt)
  have nl : ns.length = m := h.nms.len
  have el := h.el hm
  generalize hp : es.filter (notLot lt) = fs at hf
  have fl : fs.length ≤ 24 := by rw [← hp]; exact Nat.le_trans (List.length_filter_le _ _) el
  refine tells_run ?_
  generalize hT : (.tup (lt.map Sec.key) : D) = T
  have s0 : startG 9 [L, T] = [some L, some T, none, none, none, none, none, none, none] := rfl
  rw [s0]
  unfold cutB
  have srt : Says (dComp (dItems (dCall keysF (dCons (dVar 0) dNil))) [8] (tgName 8) (asB (d2 fNotIn (dVar 8) (dVar 1))) (dVar 8)) [some L, some T, none, none, none, none, none, none, none] (· = keysL fs) := by
    rw [← hp]
    exact says_filt (l := es) (g := Sec.key) (o := Sec.key) (keep := notLot lt) (saysL_items (d := .tup (es.map Sec.key)) (says_call1 (says_var (d := L) rfl) (by rw [h.eq]; exact tells_keys (by omega))) rfl) (by omega) (by show 8 < 9; decide) fun x hx G1 h1 h2 => ⟨saysT_notLot h hm hl hc hx (says_var h1) (by rw [hT]; exact h2 1 _ (by decide) rfl), fun _ => says_var h1⟩
  generalize hK : (.dic (nearK ns (nbL fs)) : D) = K
  refine does_then (Pm := (· = [some L, some T, some K, none, none, none, none, none, none])) (does_set (P := (· = K)) (says_call2 (h.says0 rfl) srt (by rw [← hK]; exact tells_linksK h.nms.nd hf (by omega) (by omega))) fun d e => by subst e; rfl) fun G e => ?_
  subst e
  refine does_then (Pm := (· = [some L, some T, some K, some (.lst []), none, none, none, none, none])) (does_set (P := (· = .lst [])) (says_lst saysL_nil (by simp)) fun d e => by subst e; rfl) fun G e => ?_
  subst e
  refine does_then (Pm := (· = stC L T K [] [] none none none)) (does_set (P := (· = .dic [])) (fun B g => ⟨_, B, rfl, g, rfl⟩) fun d e => by subst e; rfl) fun G e => ?_
  subst e
  let Good : List Str → List (List Str) → List Str → Prop := fun l P sn => P = partsL ns fs l ∧ (∀ s, s ∈ sn ↔ ∃ p ∈ P, s ∈ p) ∧ sn.Nodup ∧ (∀ s ∈ sn, s ∈ ns) ∧ P.length ≤ l.length
  let Inv : Nat → Gam → Prop := fun i G => ∃ P sn y5 y6 y7, G = stC L T K P sn y5 y6 y7 ∧ Good (ns.take i) P sn
  refine does_then (Pm := Inv ns.length) (does_for (ds := ns.map D.str) (Inv := Inv) (saysL_items (d := .tup (ns.map D.str)) (h.says0 rfl) rfl) ⟨[], [], none, none, none, rfl, rfl, by simp, by simp, by simp, by simp⟩ ?_ fun G q => by rw [List.length_map] at q; exact q) fun G ⟨P, sn, y5, y6, y7, e, gd⟩ => ?_
  · rintro i d G hd ⟨P, sn, y5, y6, y7, rfl, eP, iff, nd, sub, len⟩
    rw [List.getElem?_map] at hd
    cases hx : ns[i]? with
    | none => rw [hx] at hd; cases hd
    | some s =>
      rw [hx] at hd; cases hd
      have hs : s ∈ ns := List.mem_of_getElem? hx
      have tk : ns.take (i + 1) = ns.take i ++ [s] := by rw [List.take_add_one, hx]; rfl
      have tl : (ns.take i).length ≤ 24 := by rw [List.length_take]; omega
      have ps : partsL ns fs (ns.take (i + 1)) = stepP ns fs P s := by rw [tk, partsL_snoc, ← eP]
      refine ⟨stC L T K P sn (some (.str s)) y6 y7, rfl, does_if (PT := fun c => c = decide (s ∉ sn)) (saysT_asB ((says_2 (says_var rfl) (says_ownD rfl) (seen_notIn sn s)).mono fun d e => ⟨_, e, rfl⟩)) (fun hc => ?_) fun hc => ?_⟩
      · have no : s ∉ sn := of_decide_eq_true hc.symm
        have st : stepP ns fs P s = P ++ [cmpS ns fs s] := by unfold stepP; rw [if_neg fun z => no ((iff s).mpr z)]
        have snl := nd_len nd sub
        refine does_then (Pm := (· = stC L T K P sn (some (.str s)) (some (tupS (cmpS ns fs s))) y7)) (does_set (P := (· = tupS (cmpS ns fs s))) (by
          have := says_comp1 (G := stC L T K P sn (some (.str s)) y6 y7) (i := 2) (j := 5) h hm (notLot lt) hs (by rw [hp, hK]; rfl) rfl
          rw [hp] at this
          exact this) fun d e => by subst e; rfl) fun G e => ?_
        subst e
        refine does_then (Pm := (· = stC L T K (P ++ [cmpS ns fs s]) sn (some (.str s)) (some (tupS (cmpS ns fs s))) y7)) (does_mt draws_take (ds := P.map tupS) rfl (PL := (· = [tupS (cmpS ns fs s)])) (saysL_one (says_var rfl)) fun es' ee => by
          subst ee
          refine ⟨_, _, app_ok (by rw [List.length_map]; exact Nat.lt_of_le_of_lt (Nat.le_trans len tl) (by decide)), ?_⟩
          have e2 : (P ++ [cmpS ns fs s]).map tupS = P.map tupS ++ [tupS (cmpS ns fs s)] := by simp
          show [some L, some T, some K, some (.lst (P.map tupS ++ [tupS (cmpS ns fs s)])), _, _, _, _, _] = [some L, some T, some K, some (.lst ((P ++ [cmpS ns fs s]).map tupS)), _, _, _, _, _]
          rw [e2]) fun G e => ?_
        subst e
        let In2 : Nat → Gam → Prop := fun k G => ∃ y7, G = stC L T K (P ++ [cmpS ns fs s]) (((cmpS ns fs s).take k).foldl put1 sn) (some (.str s)) (some (tupS (cmpS ns fs s))) y7
        refine does_for (ds := (cmpS ns fs s).map D.str) (Inv := In2) (saysL_items (d := tupS (cmpS ns fs s)) (says_var rfl) rfl) ⟨y7, rfl⟩ ?_ ?_
        · rintro k d G hd ⟨z7, rfl⟩
          rw [List.getElem?_map] at hd
          cases hv : (cmpS ns fs s)[k]? with
          | none => rw [hv] at hd; cases hd
          | some v =>
            rw [hv] at hd; cases hd
            have e1 : ((cmpS ns fs s).take (k + 1)).foldl put1 sn = put1 (((cmpS ns fs s).take k).foldl put1 sn) v := by rw [List.take_add_one, hv, List.foldl_append]; rfl
            have l1 := nd_len (puts_nd ((cmpS ns fs s).take k) sn nd) fun z hz => ((puts_mem _ _ z).mp hz).elim (sub z) fun z' => (cmpS_mem.mp (List.mem_of_mem_take z')).1
            refine ⟨stC L T K (P ++ [cmpS ns fs s]) (((cmpS ns fs s).take k).foldl put1 sn) (some (.str s)) (some (tupS (cmpS ns fs s))) (some (.str v)), rfl, does_dicPut (k := .str v) (v := .bl true) rfl says_c (says_var rfl) (seen_ok _ _) (by unfold seenK; rw [List.length_map]; omega) ⟨some (.str v), ?_⟩⟩
            rw [seen_put, e1]; rfl
        · rintro G ⟨z7, rfl⟩
          rw [List.length_map,
                  List.take_length]
          refine ⟨P ++ [cmpS ns fs s], (cmpS ns fs s).foldl put1 sn, _, _, _, rfl, by rw [ps, st], fun v => ?_, puts_nd _ _ nd, fun v hv => ?_, ?_⟩
          · rw [puts_mem, iff]
            simp only [List.mem_append, List.mem_singleton]
            exact ⟨fun z => z.elim (fun ⟨p, hp, q⟩ => ⟨p, .inl hp, q⟩) fun q => ⟨_, .inr rfl, q⟩, fun ⟨p, hp, q⟩ => hp.elim (fun hp => .inl ⟨p, hp, q⟩) fun e => .inr (e ▸ q)⟩
          · exact ((puts_mem _ _ v).mp hv).elim (sub v) fun z => (cmpS_mem.mp z).1
          · rw [tk, List.length_append, List.length_append]
            simp only [List.length_cons,
                    List.length_nil]; omega
      · have inn : s ∈ sn := by simpa using of_decide_eq_false hc.symm
        have st : stepP ns fs P s = P := by unfold stepP; rw [if_pos ((iff s).mp inn)]
        exact does_skip ⟨P, sn, _, _, _, rfl, by rw [ps, st], iff, nd, sub, by rw [tk, List.length_append]; omega⟩
  · subst e
    obtain ⟨eP, -⟩ := gd
    rw [List.take_length] at eP
    subst eP
    exact does_ret (says_1 (says_own rfl) rfl)
end
end Xa
/-! YE12: _law_pieces. -/
namespace Xa
open PySem PySem.Spec
open PyProof.Rows L2
theorem nice_one : Nice 0 1 (.int 1) := ⟨by decide +kernel, by decide +kernel, by decide +kernel⟩
theorem fEq_nil {ds : List D} {k n : Nat} (h : Nice k n (.lst ds)) (hk : k ≤ 64) : fEq (.lst ds) (.lst []) = some (.bl (decide (ds = []))) := by
  have e : shp (.lst []) = true := by decide +kernel
  unfold fEq
  simp only
  rw [if_pos ⟨h.sh hk, e⟩]
  cases ds with
  | nil => rfl
  | cons d r => simp [py, pyL, PyData.eqv, PyData.eqvAll]
noncomputable def piecesB (Re : FD) : DS := (sThen (sSets [2, 3] (dCons (dOp semLst dNil) (dCons (dComp (dItems (d2 fIdx (dVar 0) (dC (.int 1)))) [5] (tgName 5) (asB (d2 fNotIn (dCut (dVar 5) pNo (pAt (dC (.int 2)))) (dVar 1))) (dCut (dVar 5) pNo (pAt (dC (.int 2))))) dNil)))
  (sThen (sFor (dItems (d2 fIdx (dVar 0) (dC (.int 0)))) (tgName 4) (sIf (asB (d2 fEq (dComp (dItems (dOwn 2)) [6] (tgName 6) (asB (d2 fIn (dVar 4) (dVar 6))) (dC (.int 1))) (dOp semLst dNil))) (sMt 2 mAppend (dCons (d1 fTuple (d1 fSorted (dCall Re (dCons (d2 fCatL (dOp semLst (dCons (dVar 4) dNil)) (dComp (dItems (d2 fIdx (dVar 0) (dC (.int 0)))) [7] (tgName 7) (asB (d2 fNe (dVar 7) (dVar 4))) (dVar 7))) (dCons (dVar 3) dNil))))) dNil)) sSkip))
  (sRet (dVar 2))))
noncomputable abbrev reachF : FD := runD 6 reachB
section
variable {m : Nat} {sorts ns : List Str} {es lt : List Sec} {L : D} {s : Str} {G : Gam}
theorem fNe_strs (a b : Str) : fNe (.str a) (.str b) = some (.bl (decide (a ≠ b))) := by
  unfold fNe fEq
  simp only [Option.bind_some]
  by_cases h : a = b <;> simp [h]
theorem rest_len (nd : ns.Nodup) (hs : s ∈ ns) : ns.length ≤ (ns.filter fun v => decide (v ≠ s)).length + 1 := by
  have h1 : ns.Nodup := nd
  have h2 := nd_len nd (m := s :: ns.filter fun v => decide (v ≠ s)) fun v hv => by
    by_cases e : v = s
    · rw [e]; exact List.mem_cons_self
    · exact List.mem_cons_of_mem _ (List.mem_filter.mpr ⟨hv, decide_eq_true e⟩)
  rw [List.length_cons] at h2
  exact h2
/-- one station's piece -/
theorem says_piece1 (h : LineOf m sorts ns es L) (hm : m ≤ 24) (p : Sec → Bool) (hs : s ∈ ns) (g0 : gat G 0 = some L) (g3 : gat G 3 = some (keysL (es.filter p))) (g4 : gat G 4 = some (.str s)) (hl : 7 < G.length) :
    Says (d1 fTuple (d1 fSorted (dCall reachF (dCons (d2 fCatL (dOp semLst (dCons (dVar 4) dNil)) (dComp (dItems (d2 fIdx (dVar 0) (dC (.int 0)))) [7] (tgName 7) (asB (d2 fNe (dVar 7) (dVar 4))) (dVar 7))) (dCons (dVar 3) dNil))))) G (· = tupS (cmpS ns (es.filter p) s)) := by
  have hf := fits_filter h.fits p
  have nl : ns.length = m := h.nms.len
  have rl := rest_len h.nms.nd hs
  have rl2 : (ns.filter fun v => decide (v ≠ s)).length ≤ 24 := Nat.le_trans (List.length_filter_le _ _) (by omega)
  obtain ⟨nd, all⟩ := turns_all hf hs rl
  have sub : ∀ w ∈ turnsR (es.filter p) [s] ((ns.filter fun v => decide (v ≠ s)).length + 1), w ∈ ns := fun w hw => ((all w).mp hw).inN hf hs
  have tl := nd_len nd sub
  have cat : Says (d2 fCatL (dOp semLst (dCons (dVar 4) dNil)) (dComp (dItems (d2 fIdx (dVar 0) (dC (.int 0)))) [7] (tgName 7) (asB (d2 fNe (dVar 7) (dVar 4))) (dVar 7))) G (· = .lst ((s :: ns.filter fun v => decide (v ≠ s)).map D.str)) := by
    refine says_2 (says_lst (saysL_one (says_var g4)) (by simp)) (says_filt (l := ns) (g := D.str) (o := D.str) (keep := fun v => decide (v ≠ s)) (saysL_items (d := .tup (ns.map D.str)) (h.says0 g0) rfl) (by omega) hl fun v hv G1 h1 h2 => ⟨saysT_asB ((says_2 (says_var h1) (says_var (h2 4 _ (by decide) g4)) (fNe_strs v s)).mono fun d e => ⟨_, e, rfl⟩), fun _ => says_var h1⟩) ?_
    rw [catL_ok (by simp only [List.length_map, List.length_cons, List.length_nil]; omega)]
    rfl
  refine says_1 (a := .lst ((cmpS ns (es.filter p) s).map D.str)) (says_1 (a := .lst ((turnsR (es.filter p) [s] ((ns.filter fun v => decide (v ≠ s)).length + 1)).map D.str)) (says_call2 cat (says_var g3) (tells_reach hf hs (by omega) (by omega))) ?_) rfl
  rw [fSorted_strs (fun w hw => h.layN w (sub w hw)) (by omega), cmpS_eq hf h.nms.nd hs nd all]
theorem saysT_nowhere (P : List (List Str)) (hP : P.length ≤ 100) (hl : 6 < G.length) (g2 : gat G 2 = some (.lst (P.map tupS))) (g4 : gat G 4 = some (.str s)) :
    SaysT (asB (d2 fEq (dComp (dItems (dOwn 2)) [6] (tgName 6) (asB (d2 fIn (dVar 4) (dVar 6))) (dC (.int 1))) (dOp semLst dNil))) G (· = decide ((P.filter fun p => decide (s ∈ p)) = [])) := by
  refine saysT_asB ((says_2 (a := .lst ((P.filter fun p => decide (s ∈ p)).map fun _ => D.int 1)) (b := .lst []) (says_filt (l := P) (g := tupS) (o := fun _ => .int 1) (keep := fun p => decide (s ∈ p)) (saysL_items (d := .lst (P.map tupS)) (says_own g2) rfl) (by omega) hl fun p hp G1 h1 h2 => ⟨saysT_asB ((says_2 (says_var (h2 4 _ (by decide) g4)) (says_var h1) (fIn_tup s p)).mono fun d e => ⟨_, e, rfl⟩), fun _ => says_c⟩) (says_lst saysL_nil (by simp)) (fEq_nil (k := 1) (n := 200) (nice_lst (k := 0) (n := 1) (c := 100) (fun d hd => by
    obtain ⟨_, _, rfl⟩ := List.mem_map.mp hd
    exact nice_one) (by rw [List.length_map]; exact Nat.le_trans (List.length_filter_le _ _) hP)) (by decide))).mono fun d e => ⟨_, e, ?_⟩)
  rw [decide_eq_decide, List.map_eq_nil_iff]
end
end Xa
/-! YE13: _law_pieces gives the same parts. -/
namespace Xa
open PySem PySem.Spec
open PyProof.Rows L2
section
variable {m : Nat} {sorts ns : List Str} {es lt : List Sec} {L : D} {s : Str}
abbrev stP (L lot : D) (fs : List Sec) (P : List (List Str)) (y4 : Option D) : Gam := [some L, some lot, some (.lst (P.map tupS)), some (keysL fs), y4, none, none, none]
theorem tells_pieces (h : LineOf m sorts ns es L) (hm : m ≤ 24) (hl : ∀ x ∈ lt, x ∈ es) (hc : lt.length ≤ 24) :
    Tells (runD 8 (piecesB reachF)) [L, .tup (lt.map Sec.key)] (· = .lst ((partsL ns (es.filter (notLot lt)) ns).map tupS)) := by
  have nl : ns.length = m := h.nms.len
  have el := h.el hm
  refine tells_run ?_
  generalize hT : (.tup (lt.map Sec.key) : D) = T
  have s0 : startG 8 [L, T] = [some L, some T, none, none, none, none, none, none] := rfl
  rw [s0]
  unfold piecesB
  have srt : Says (dComp (dItems (d2 fIdx (dVar 0) (dC (.int 1)))) [5] (tgName 5) (asB (d2 fNotIn (dCut (dVar 5) pNo (pAt (dC (.int 2)))) (dVar 1))) (dCut (dVar 5) pNo (pAt (dC (.int 2))))) [some L, some T, none, none, none, none, none, none] (· = keysL (es.filter (notLot lt))) :=
    says_filt (l := es) (g := Sec.d) (o := Sec.key) (keep := notLot lt) (saysL_items (h.says1 rfl) rfl) (by omega) (by show 5 < 8; decide) fun x hx G1 h1 h2 => ⟨saysT_notLot h hm hl hc hx (says_cut2 h1) (by rw [hT]; exact h2 1 _ (by decide) rfl), fun _ => says_cut2 h1⟩
  generalize hfs : es.filter (notLot lt) = fs at srt ⊢
  refine does_then (Pm := (· = stP L T fs [] none)) (does_sets (PL := (· = [.lst [], keysL fs])) (saysL_2 (says_lst saysL_nil (by simp)) srt) fun ds e => by subst e; rfl) fun G e => ?_
  subst e
  let Inv : Nat → Gam → Prop := fun i G => ∃ P y4, G = stP L T fs P y4 ∧ P = partsL ns fs (ns.take i) ∧ P.length ≤ (ns.take i).length
  refine does_then (Pm := Inv ns.length) (does_for (ds := ns.map D.str) (Inv := Inv) (saysL_items (d := .tup (ns.map D.str)) (h.says0 rfl) rfl) ⟨[], none, rfl, rfl, by simp⟩ ?_ fun G q => by rw [List.length_map] at q; exact q) fun G ⟨P, y4, e, eP, _⟩ => ?_
  · rintro i d G hd ⟨P, y4, rfl, eP, len⟩
    rw [List.getElem?_map] at hd
    cases hx : ns[i]? with
    | none => rw [hx] at hd; cases hd
    | some s =>
      rw [hx] at hd; cases hd
      have hs : s ∈ ns := List.mem_of_getElem? hx
      have tk : ns.take (i + 1) = ns.take i ++ [s] := by rw [List.take_add_one, hx]; rfl
      have tl : (ns.take i).length ≤ 24 := by rw [List.length_take]; omega
      have ps : partsL ns fs (ns.take (i + 1)) = stepP ns fs P s := by rw [tk, partsL_snoc, ← eP]
      have pl : P.length ≤ 24 := Nat.le_trans len tl
      have none_iff : (P.filter fun p => decide (s ∈ p)) = [] ↔ ¬ ∃ p ∈ P, s ∈ p := by
        rw [List.filter_eq_nil_iff]
        simp
      refine ⟨stP L T fs P (some (.str s)), rfl, does_if (PT := fun c => c = decide ((P.filter fun p => decide (s ∈ p)) = [])) (saysT_nowhere P (Nat.le_trans pl (by decide)) (by show 6 < 8; decide) rfl rfl) (fun hc => ?_) fun hc => ?_⟩
      · have no := none_iff.mp (of_decide_eq_true hc.symm)
        have st : stepP ns fs P s = P ++ [cmpS ns fs s] := by unfold stepP; rw [if_neg no]
        refine does_mt draws_take (ds := P.map tupS) rfl (PL := (· = [tupS (cmpS ns fs s)])) (saysL_one (by
          have := says_piece1 (G := stP L T fs P (some (.str s))) h hm (notLot lt) hs rfl (by rw [hfs]; rfl) rfl (by show 7 < 8; decide)
          rw [hfs] at this
          exact this)) fun es' ee => ?_
        subst ee
        refine ⟨_, _, app_ok (by rw [List.length_map]; exact Nat.lt_of_le_of_lt pl (by decide)), P ++ [cmpS ns fs s], some (.str s), ?_, by rw [ps, st], ?_⟩
        · have e2 : (P ++ [cmpS ns fs s]).map tupS = P.map tupS ++ [tupS (cmpS ns fs s)] := by simp
          show [some L, some T, some (.lst (P.map tupS ++ [tupS (cmpS ns fs s)])), _, _, _, _, _] = [some L, some T, some (.lst ((P ++ [cmpS ns fs s]).map tupS)), _, _, _, _, _]
          rw [e2]
        · rw [tk, List.length_append, List.length_append]
          simp only [List.length_cons,
                  List.length_nil]; omega
      · have yes : ∃ p ∈ P, s ∈ p := Classical.byContradiction fun n => of_decide_eq_false hc.symm (none_iff.mpr n)
        have st : stepP ns fs P s = P := by unfold stepP; rw [if_pos yes]
        exact does_skip ⟨P, some (.str s), rfl, by rw [ps, st], by rw [tk, List.length_append]; omega⟩
  · subst e
    rw [List.take_length] at eP
    subst eP
    exact does_ret (says_var rfl)
end
end Xa
/-! YF1: a tree, some of its sections taken: how many parts, how many sections in each. -/
namespace Xa
open PySem PySem.Spec
open PyProof.Rows L2
/-- stations put in one by one, each by one section -/
inductive Tree : List Str → List Sec → Prop
  | root (r : Str) : Tree [r] []
  | leaf {ns : List Str} {es : List Sec} {x : Sec} {u v : Str} : Tree ns es → u ∉ ns → v ∈ ns → x.joins u v → Tree (u :: ns) (x :: es)
/-- rep: the first one of a station's part -/
structure RepOk (p : Sec → Bool) (ns : List Str) (es : List Sec) (rep : Str → Str) : Prop where
  inN : ∀ v ∈ ns, rep v ∈ ns
  idem : ∀ v ∈ ns, rep (rep v) = rep v
  yes : ∀ x ∈ es, p x = true → rep x.a = rep x.b
  no : ∀ x ∈ es, p x = false → rep x.a ≠ rep x.b
  rch : ∀ v ∈ ns, Rch (es.filter p) (rep v) v
  tops : (ns.filter fun v => decide (rep v = v)).length = (es.filter fun x => !p x).length + 1
  part : ∀ r ∈ ns, rep r = r → (ns.filter fun v => decide (rep v = r)).length = (es.filter fun x => decide (rep x.a = r ∧ rep x.b = r)).length + 1
section
variable {ns : List Str} {es fs : List Sec} {p : Sec → Bool}
theorem Rch.mono (hf : Fits2 ns fs) (hs : ∀ x ∈ es, x ∈ fs) {u v : Str} (h : Rch es u v) : Rch fs u v := by
  have he : Fits2 ns es := fun x hx => hf x (hs x hx)
  induction h with
  | here => exact .here
  | step _ a ih =>
    obtain ⟨x, hx, j⟩ := (adj_iff he).mp a
    exact ih.step ((adj_iff hf).mpr ⟨x, hs x hx, j⟩)
theorem Tree.fits (h : Tree ns es) : Fits2 ns es := by
  induction h with
  | root r => exact fun x z => nomatch z
  | @leaf ns es x u v t hu hv j ih =>
    intro y hy; rcases List.mem_cons.mp hy with e | hy
    · subst e
      have uv : u ≠ v := fun z => hu (z ▸ hv)
      rcases j with ⟨a, b⟩ | ⟨a, b⟩
      · rw [a, b]; exact ⟨List.mem_cons_self, List.mem_cons_of_mem _ hv, uv⟩
      · rw [a, b]; exact ⟨List.mem_cons_of_mem _ hv, List.mem_cons_self, fun z => uv z.symm⟩
    · obtain ⟨a, b, c⟩ := ih y hy
      exact ⟨List.mem_cons_of_mem _ a, List.mem_cons_of_mem _ b, c⟩
theorem Tree.rep (h : Tree ns es) (p : Sec → Bool) : ∃ rep, RepOk p ns es rep := by
  induction h with
  | root r =>
    refine ⟨id, fun v hv => hv, fun v _ => rfl, fun x z => (nomatch z), fun x z => (nomatch z), fun v _ => .here, by simp, fun q hq _ => ?_⟩
    rw [List.mem_singleton.mp hq]
    simp
  | @leaf ns es x u v t hu hv j ih =>
    obtain ⟨rep, ok⟩ := ih
    have ft := t.fits
    have ft2 := (Tree.leaf t hu hv j).fits
    let rep' : Str → Str := fun w => if w = u then (if p x = true then rep v else u) else rep w
    have old : ∀ {w}, w ∈ ns → rep' w = rep w := fun {w} hw => if_neg fun e : w = u => hu (e ▸ hw)
    have new : rep' u = if p x = true then rep v else u := if_pos rfl
    have xa : (x.a = u ∧ x.b = v) ∨ (x.a = v ∧ x.b = u) := j
    have rv : rep' v = rep v := old hv
    have vn : rep v ∈ ns := ok.inN v hv
    have ea : ∀ y ∈ es, rep' y.a = rep y.a ∧ rep' y.b = rep y.b := fun y hy => ⟨old (ft y hy).1, old (ft y hy).2.1⟩
    have up : ∀ {w}, Rch (es.filter p) (rep w) w → Rch ((x :: es).filter p) (rep w) w := fun {w} r => r.mono (ns := u :: ns) (fits_filter ft2 p) fun y hy => List.mem_filter.mpr ⟨List.mem_cons_of_mem _ (List.mem_filter.mp hy).1, (List.mem_filter.mp hy).2⟩
    refine ⟨rep', fun w hw => ?_, fun w hw => ?_, fun y hy hp => ?_, fun y hy hp => ?_, fun w hw => ?_, ?_, fun r hr er => ?_⟩
    · rcases List.mem_cons.mp hw with e | hw
      · rw [e, new]
        split
        · exact List.mem_cons_of_mem _ vn
        · exact List.mem_cons_self
      · rw [old hw]; exact List.mem_cons_of_mem _ (ok.inN w hw)
    · rcases List.mem_cons.mp hw with e | hw
      · rw [e, new]
        split
        · rw [old vn]; exact ok.idem v hv
        · rename_i np
          rw [new, if_neg np]
      · rw [old hw, old (ok.inN w hw)]; exact ok.idem w hw
    · rcases List.mem_cons.mp hy with e | hy
      · subst e
        rcases xa with ⟨a, b⟩ | ⟨a, b⟩
        · rw [a, b, new, rv, if_pos hp]
        · rw [a, b, new, rv, if_pos hp]
      · rw [(ea y hy).1, (ea y hy).2]; exact ok.yes y hy hp
    · rcases List.mem_cons.mp hy with e | hy
      · subst e
        have np : ¬ p y = true := by rw [hp]; exact Bool.false_ne_true
        rcases xa with ⟨a, b⟩ | ⟨a, b⟩
        · rw [a, b, new, rv, if_neg np]; exact fun e => hu (e ▸ vn)
        · rw [a, b, new, rv, if_neg np]; exact fun e => hu (e ▸ vn)
      · rw [(ea y hy).1, (ea y hy).2]; exact ok.no y hy hp
    · rcases List.mem_cons.mp hw with e | hw
      · rw [e, new]
        split
        · rename_i hp
          exact (up (ok.rch v hv)).step ((adj_iff (fits_filter ft2 p)).mpr ⟨x, List.mem_filter.mpr ⟨List.mem_cons_self, hp⟩, xa.elim .inr .inl⟩)
        · exact .here
      · rw [old hw]; exact up (ok.rch w hw)
    · have e1 : (ns.filter fun w => decide (rep' w = w)) = ns.filter fun w => decide (rep w = w) := List.filter_congr fun w hw => by rw [old hw]
      cases hp : p x with
      | true =>
        have nu : ¬ rep' u = u := by rw [new, if_pos hp]; exact fun e => hu (e ▸ vn)
        rw [List.filter_cons_of_neg (by simpa using nu), e1, List.filter_cons_of_neg (by simp [hp])]
        exact ok.tops
      | false =>
        have yu : rep' u = u := by rw [new, if_neg (by rw [hp]; exact Bool.false_ne_true)]
        rw [List.filter_cons_of_pos (by simpa using yu), e1, List.filter_cons_of_pos (by simp [hp]), List.length_cons, List.length_cons, ok.tops]
    · have e1 : (ns.filter fun w => decide (rep' w = r)) = ns.filter fun w => decide (rep w = r) := List.filter_congr fun w hw => by rw [old hw]
      have e2 : (es.filter fun y => decide (rep' y.a = r ∧ rep' y.b = r)) = es.filter fun y => decide (rep y.a = r ∧ rep y.b = r) := List.filter_congr fun y hy => by rw [(ea y hy).1, (ea y hy).2]
      have ends : (rep' x.a = r ∧ rep' x.b = r) ↔ rep' u = r ∧ rep v = r := by
        rcases xa with ⟨a, b⟩ | ⟨a, b⟩
        · rw [a, b, rv]
        · rw [a, b, rv]; exact And.comm
      rcases List.mem_cons.mp hr with e | hr
      · have none1 : (ns.filter fun w => decide (rep w = r)) = [] := List.filter_eq_nil_iff.mpr fun w hw => by
          simp only [decide_eq_true_eq]
          exact fun z => hu (e ▸ z ▸ ok.inN w hw)
        have none2 : (es.filter fun y => decide (rep y.a = r ∧ rep y.b = r)) = [] := List.filter_eq_nil_iff.mpr fun y hy => by
          simp only [decide_eq_true_eq]
          exact fun z => hu (e ▸ z.1 ▸ ok.inN y.a (ft y hy).1)
        have nx : ¬ (rep' x.a = r ∧ rep' x.b = r) := fun z => hu (e ▸ (ends.mp z).2 ▸ vn)
        rw [List.filter_cons_of_pos (by rw [← e]; simpa using er), e1, none1, List.filter_cons_of_neg (by simpa using nx), e2, none2]
        rfl
      · have er0 : rep r = r := by rw [← old hr]; exact er
        have old2 := ok.part r hr er0
        have ru : r ≠ u := fun z => hu (z ▸ hr)
        by_cases c : rep' u = r
        · have hp : p x = true := Classical.byContradiction fun np => ru (by rw [← c, new, if_neg np])
          have c2 : rep v = r := by rw [← c, new, if_pos hp]
          rw [List.filter_cons_of_pos (by simpa using c), e1, List.filter_cons_of_pos (by simpa using ends.mpr ⟨c, c2⟩), e2, List.length_cons, List.length_cons, old2]
        · have nx : ¬ (rep' x.a = r ∧ rep' x.b = r) := fun z => c (ends.mp z).1
          rw [List.filter_cons_of_neg (by simpa using c), e1, List.filter_cons_of_neg (by simpa using nx), e2]
          exact old2
end
end Xa
/-! YF2: the parts of a LINE. -/
namespace Xa
open PySem PySem.Spec
open PyProof.Rows L2
section
variable {m : Nat} {sorts ns : List Str} {es : List Sec} {L : D} {p : Sec → Bool} {rep : Str → Str}
theorem LineOf.grown (h : LineOf m sorts ns es L) (h0 : 0 < m) : ∃ ns' es', Tree ns' es' ∧ ns'.Perm ns ∧ es'.Perm es := by
  obtain ⟨ns0, es0, hb, hl, p1, p2⟩ := h.tree
  have len0 : ns0.length = m := by rw [← p1.length_eq, h.nms.len]
  have nd0 : ns0.Nodup := p1.nodup_iff.mp h.nms.nd
  have go : ∀ k, k < m → ∃ ns' es', Tree ns' es' ∧ ns'.Perm (ns0.take (k + 1)) ∧ es'.Perm (es0.take k) := by
    intro k
    induction k with
    | zero =>
      intro hk
      have e : ns0.take 1 = [ns0[0]] := by rw [List.take_add_one, List.take_zero, List.getElem?_eq_getElem (by omega)]; rfl
      exact ⟨[ns0[0]], [], .root _, by rw [e], by simp⟩
    | succ k ih =>
      intro hk
      obtain ⟨ns', es', t, q1, q2⟩ := ih (by omega)
      have hk2 : k < es0.length := by omega
      obtain ⟨u, o, v, hu, ho, hv, j, _, _⟩ := hb.join k es0[k] (List.getElem?_eq_getElem hk2)
      have e1 : ns0.take (k + 1 + 1) = ns0.take (k + 1) ++ [u] := by rw [List.take_add_one, hu]; rfl
      have e2 : es0.take (k + 1) = es0.take k ++ [es0[k]] := by rw [List.take_add_one, List.getElem?_eq_getElem hk2]; rfl
      have out : u ∉ ns' := fun z => by
        have z := q1.mem_iff.mp z
        have nd := nd0.sublist (List.take_sublist (k + 1 + 1) ns0)
        rw [e1] at nd
        exact (List.nodup_append.mp nd).2.2 u z u (by simp) rfl
      have inn : v ∈ ns' := q1.mem_iff.mpr (by
        have : (ns0.take (k + 1))[o]? = some v := by rw [List.getElem?_take_of_lt (by omega)]; exact hv
        exact List.mem_of_getElem? this)
      refine ⟨u :: ns', es0[k] :: es', .leaf t out inn j, ?_, ?_⟩
      · rw [e1]; exact (q1.cons u).trans (List.perm_append_singleton _ _).symm
      · rw [e2]; exact (q2.cons _).trans (List.perm_append_singleton _ _).symm
  obtain ⟨ns', es', t, q1, q2⟩ := go (m - 1) (by omega)
  rw [List.take_of_length_le (by omega)] at q1 q2
  exact ⟨ns', es', t, q1.trans p1.symm, q2.trans p2.symm⟩
theorem LineOf.reps (h : LineOf m sorts ns es L) (h0 : 0 < m) (p : Sec → Bool) : ∃ rep, RepOk p ns es rep := by
  obtain ⟨ns', es', t, q1, q2⟩ := h.grown h0
  obtain ⟨rep, ok⟩ := t.rep p
  refine ⟨rep, fun v hv => q1.mem_iff.mp (ok.inN v (q1.mem_iff.mpr hv)), fun v hv => ok.idem v (q1.mem_iff.mpr hv), fun x hx => ok.yes x (q2.mem_iff.mpr hx), fun x hx => ok.no x (q2.mem_iff.mpr hx), fun v hv => ?_, ?_, fun r hr e => ?_⟩
  · exact (ok.rch v (q1.mem_iff.mpr hv)).mono (fits_filter h.fits p) fun x hx => List.mem_filter.mpr ⟨q2.mem_iff.mp (List.mem_filter.mp hx).1, (List.mem_filter.mp hx).2⟩
  · rw [← (q1.filter _).length_eq, ok.tops, (q2.filter _).length_eq]
  · rw [← (q1.filter _).length_eq, ok.part r (q1.mem_iff.mpr hr) e, (q2.filter _).length_eq]
/-- come to: of one rep -/
theorem rch_rep (hf : Fits2 ns es) (ok : RepOk p ns es rep) {u v : Str} (hu : u ∈ ns) (hv : v ∈ ns) : Rch (es.filter p) u v ↔ rep u = rep v := by
  constructor
  · intro r
    refine r.stay (S := fun w => rep u = rep w) (fun s e w hw => ?_) rfl
    obtain ⟨x, hx, j⟩ := (adj_iff (fits_filter hf p)).mp hw
    have hx := List.mem_filter.mp hx
    have y := ok.yes x hx.1 hx.2
    rcases j with ⟨a, b⟩ | ⟨a, b⟩
    · rw [a, b] at y; exact e.trans y
    · rw [a, b] at y; exact e.trans y.symm
  · intro e
    exact ((ok.rch u hu).symm (fits_filter hf p)).trans (e ▸ ok.rch v hv)
theorem cmpS_rep (hf : Fits2 ns es) (ok : RepOk p ns es rep) {s v : Str} (hs : s ∈ ns) : v ∈ cmpS ns (es.filter p) s ↔ v ∈ ns ∧ rep v = rep s := by
  rw [cmpS_mem]
  exact ⟨fun z => ⟨z.1, ((rch_rep hf ok hs z.1).mp z.2).symm⟩, fun z => ⟨z.1, (rch_rep hf ok hs z.1).mpr z.2.symm⟩⟩
/-- a part's length, and how many sections are within -/
theorem part_counts (hf : Fits2 ns es) (nd : ns.Nodup) (ok : RepOk p ns es rep) {s : Str} (hs : s ∈ ns) : (cmpS ns (es.filter p) s).length = (es.filter (withinP (cmpS ns (es.filter p) s))).length + 1 := by
  have e1 : (cmpS ns (es.filter p) s).Perm (ns.filter fun v => decide (rep v = rep s)) := (List.perm_ext_iff_of_nodup (cmpS_nd nd) (nd.filter _)).mpr fun v => by
    rw [cmpS_rep hf ok hs, List.mem_filter, decide_eq_true_eq]
  have e2 : es.filter (withinP (cmpS ns (es.filter p) s)) = es.filter fun x => decide (rep x.a = rep s ∧ rep x.b = rep s) := List.filter_congr fun x hx => by
    have a : decide (x.a ∈ cmpS ns (es.filter p) s) = decide (rep x.a = rep s) := decide_eq_decide.mpr ((cmpS_rep hf ok hs).trans ⟨fun z => z.2, fun z => ⟨(hf x hx).1, z⟩⟩)
    have b : decide (x.b ∈ cmpS ns (es.filter p) s) = decide (rep x.b = rep s) := decide_eq_decide.mpr ((cmpS_rep hf ok hs).trans ⟨fun z => z.2, fun z => ⟨(hf x hx).2.1, z⟩⟩)
    unfold withinP
    rw [a, b, Bool.decide_and]
  rw [e1.length_eq, e2]
  exact ok.part (rep s) (ok.inN s hs) (ok.idem s hs)
/-- what the parts are, behind so many stations -/
theorem parts_are (hf : Fits2 ns es) (ok : RepOk p ns es rep) : ∀ (l l0 : List Str), (∀ s ∈ l ++ l0, s ∈ ns) → (∀ P : List (List Str), (∀ v ∈ ns, (∃ q ∈ P, v ∈ q) ↔ ∃ w ∈ l0, rep w = rep v) → (∀ q ∈ P, ∃ s ∈ ns, q = cmpS ns (es.filter p) s) → P.length = ((l0.map rep).foldl more []).length →
    (∀ q ∈ l.foldl (stepP ns (es.filter p)) P, ∃ s ∈ ns, q = cmpS ns (es.filter p) s) ∧ (l.foldl (stepP ns (es.filter p)) P).length = (((l0 ++ l).map rep).foldl more []).length)
  | [], l0, _, P, _, h2, h3 => ⟨h2, by rw [List.append_nil]; exact h3⟩
  | s :: l, l0, hs, P, h1, h2, h3 => by
    have sn : s ∈ ns := hs s (by simp)
    have e0 : ((l0 ++ [s]).map rep).foldl more [] = more ((l0.map rep).foldl more []) (rep s) := by rw [List.map_append, List.foldl_append]; rfl
    have mem : rep s ∈ (l0.map rep).foldl more [] ↔ ∃ q ∈ P, s ∈ q := by
      rw [fold_mem, h1 s sn]
      simp only [List.not_mem_nil, false_or, List.mem_map]
    have e1 : l0 ++ s :: l = (l0 ++ [s]) ++ l := by simp
    rw [List.foldl_cons, e1]
    refine parts_are hf ok l (l0 ++ [s]) (fun t ht => hs t (by simp only [List.mem_append, List.mem_cons, List.not_mem_nil, or_false] at ht ⊢; rcases ht with a | a | a; exact .inl (.inr a); exact .inr a; exact .inl (.inl a))) _ (fun v hv => ?_) (fun q hq => ?_) ?_
    · have more1 : (∃ w ∈ l0 ++ [s], rep w = rep v) ↔ (∃ w ∈ l0, rep w = rep v) ∨ rep s = rep v := by
        simp only [List.mem_append, List.mem_singleton]
        exact ⟨fun ⟨w, hw, e⟩ => hw.elim (fun hw => .inl ⟨w, hw, e⟩) fun z => .inr (z ▸ e), fun z => z.elim (fun ⟨w, hw, e⟩ => ⟨w, .inl hw, e⟩) fun e => ⟨s, .inr rfl, e⟩⟩
      rw [more1, ← h1 v hv]
      unfold stepP
      split
      · rename_i c
        refine ⟨.inl, fun z => z.elim id fun e => (h1 v hv).mpr ?_⟩
        obtain ⟨w, hw, ew⟩ := (h1 s sn).mp c
        exact ⟨w, hw, ew.trans e⟩
      · simp only [List.mem_append, List.mem_singleton]
        refine ⟨fun ⟨q, hq, hv'⟩ => hq.elim (fun hq => .inl ⟨q, hq, hv'⟩) fun z => .inr ?_, fun z => z.elim (fun ⟨q, hq, hv'⟩ => ⟨q, .inl hq, hv'⟩) fun e => ⟨_, .inr rfl, (cmpS_rep hf ok sn).mpr ⟨hv, e.symm⟩⟩⟩
        subst z
        exact ((cmpS_rep hf ok sn).mp hv').2.symm
    · unfold stepP at hq
      split at hq
      · exact h2 q hq
      · rcases List.mem_append.mp hq
              with hq | hq
        · exact h2 q hq
        · exact ⟨s, sn, List.mem_singleton.mp hq⟩
    · rw [e0]
      by_cases c : ∃ q ∈ P, s ∈ q
      · have a : stepP ns (es.filter p) P s = P := if_pos c
        have b : more ((l0.map rep).foldl more []) (rep s) = (l0.map rep).foldl more [] := if_pos (mem.mpr c)
        rw [a, b]; exact h3
      · have a : stepP ns (es.filter p) P s = P ++ [cmpS ns (es.filter p) s] := if_neg c
        have b : more ((l0.map rep).foldl more []) (rep s) = rep s :: (l0.map rep).foldl more [] := if_neg fun z => c (mem.mp z)
        rw [a, b, List.length_append, List.length_cons, List.length_cons, List.length_nil, h3]
/-- each part is what some station comes to; there is one more than sections left out -/
theorem LineOf.parts (h : LineOf m sorts ns es L) (h0 : 0 < m) (p : Sec → Bool) : (∀ q ∈ partsL ns (es.filter p) ns, q.length = (es.filter (withinP q)).length + 1 ∧ q.Pairwise (fun x y => (!sLt y x) = true) ∧ q.Nodup ∧ (∀ s ∈ q, s ∈ ns) ∧ q ≠ []) ∧ (partsL ns (es.filter p) ns).length = (es.filter fun x => !p x).length + 1 := by
  obtain ⟨rep, ok⟩ := h.reps h0 p
  obtain ⟨a, b⟩ := parts_are h.fits ok ns [] (by simp) [] (by simp) (by simp) rfl
  refine ⟨fun q hq => ?_, ?_⟩
  · obtain ⟨s, hs, rfl⟩ := a q hq
    exact ⟨part_counts h.fits h.nms.nd ok hs, sortS_up _, cmpS_nd h.nms.nd, fun v hv => (cmpS_mem.mp hv).1, List.ne_nil_of_mem (cmpS_mem.mpr ⟨hs, .here⟩)⟩
  · have e : ((([] : List Str) ++ ns).map rep).foldl more [] = (ns.map rep).foldl more [] := rfl
    rw [e] at b
    have pm : ((ns.map rep).foldl more []).Perm (ns.filter fun v => decide (rep v = v)) := (List.perm_ext_iff_of_nodup (fold_nd _ [] .nil) (h.nms.nd.filter _)).mpr fun v => by
      rw [fold_mem, List.mem_filter, decide_eq_true_eq]
      simp only [List.not_mem_nil, false_or, List.mem_map]
      exact ⟨fun ⟨w, hw, ew⟩ => ew ▸ ⟨ok.inN w hw, ok.idem w hw⟩, fun z => ⟨v, z.1, z.2⟩⟩
    rw [pm.length_eq, ok.tops] at b
    exact b
end
end Xa
/-! YF3: is_part of a part. -/
namespace Xa
open PySem PySem.Spec
open PyProof.Rows L2
def stationB : DS := (sRet (d2 fIn (dVar 1) (d2 fIdx (dVar 0) (dC (.int 0)))))
def ascendsB : DS := (sRet (d1 fAll (dComp (dVia zipL (dCons (dVar 0) (dCons (dCut (dVar 0) (pAt (dC (.int 1))) pNo) dNil))) [1, 2] (tgTup [1, 2]) dYes (d2 fLt (dVar 1) (dVar 2)))))
noncomputable def isPartB (Is As : FD) : DS := (sThen (sIf (tOrD (tNotD (asB (d1 (fIsi "tuple") (dVar 1)))) (asB (d2 fEq (d1 fLen (dVar 1)) (dC (.int 0))))) (sRet (dC (.bl false))) sSkip)
  (sThen (sIf (tOrD (tNotD (asB (d1 fAll (dComp (dItems (dVar 1)) [3] (tgName 3) dYes (dCall Is (dCons (dVar 0) (dCons (dVar 3) dNil))))))) (tNotD (asB (dCall As (dCons (dVar 1) dNil))))) (sRet (dC (.bl false))) sSkip)
  (sThen (sSet 2 (dComp (dItems (d2 fIdx (dVar 0) (dC (.int 1)))) [4] (tgName 4) (tAndD (asB (d2 fIn (d2 fIdx (dVar 4) (dC (.int 0))) (dVar 1))) (asB (d2 fIn (d2 fIdx (dVar 4) (dC (.int 1))) (dVar 1)))) (dVar 4)))
  (sRet (d2 fEq (d1 fLen (dVar 2)) (d2 (fI gSub2) (d1 fLen (dVar 1)) (dC (.int 1))))))))
abbrev stationF : FD := runD 2 stationB
abbrev ascendsF : FD := runD 3 ascendsB
noncomputable abbrev isPartF : FD := runD 5 (isPartB stationF ascendsF)
section
variable {m : Nat} {sorts ns : List Str} {es : List Sec} {L : D} {q : List Str} {G : Gam}
theorem fAll_true {ds : List D} (h : ∀ d ∈ ds, d = .bl true) : fAll (.lst ds) = some (.bl true) := by
  unfold fAll
  simp only
  split
  · exact congrArg (fun c => some (D.bl c)) (List.all_eq_true.mpr fun d hd => by rw [h d hd])
  · rename_i n
    exact absurd (List.all_eq_true.mpr fun d hd => by rw [h d hd]) n
theorem saysL_via {op : List D → Option (List D)} {fs : DA} {l ds : List D} (h : SaysL fs G (· = l)) (e : op l = some ds) : SaysL (dVia op fs) G (· = ds) := fun B g => by
  obtain ⟨l', B1, e1, g1, rfl⟩ := h B g
  exact ⟨ds, B1, by unfold dVia; rw [e1, Option.bind_some]; simp only; rw [e]; rfl, g1, rfl⟩
theorem says_tail {f : DE} {k : Int} {a r : D} (h : Says f G (· = a)) (e : fCut a (some k) none = some r) : Says (dCut f (pAt (dC (.int k))) pNo) G (· = r) := fun B g => by
  obtain ⟨d, B1, e1, g1, rfl⟩ := h B g
  refine ⟨r, B1, ?_, g1, rfl⟩
  unfold dCut pAt pNo dC
  rw [e1, Option.bind_some]
  simp only [Option.bind_some, Option.map_some]
  rw [e]; rfl
theorem tells_station (h : LineOf m sorts ns es L) (s : Str) : Tells stationF [L, .str s] (· = .bl (decide (s ∈ ns))) :=
  tells_run (does_ret (says_2 (says_var (d := .str s) rfl) (h.says0 (i := 0) rfl) (fIn_tup s ns)))
theorem zip_up : ∀ {q : List Str}, q.Pairwise (fun x y => sLt x y = true) → ∀ p ∈ q.zip q.tail, sLt p.1 p.2 = true
  | [], _, p, hp => nomatch hp
  | [_], _, p, hp => nomatch hp
  | a :: b :: r, h, p, hp => by
    rcases List.mem_cons.mp hp
            with e | hp
    · subst e
      exact (List.pairwise_cons.mp h).1 b List.mem_cons_self
    · exact zip_up (q := b :: r) (List.pairwise_cons.mp h).2 p hp
theorem zipD_strs : ∀ (xs ys : List Str), zipD (xs.map D.str) (ys.map D.str) = (xs.zip ys).map fun p => D.tup [.str p.1, .str p.2]
  | [], _ => rfl
  | _ :: _, [] => rfl
  | x :: xs, y :: ys => by
    have := zipD_strs xs ys
    unfold zipD at this ⊢
    simp only [List.map_cons, List.zipWith_cons_cons, List.zip_cons_cons]
    rw [this]
theorem strict {q : List Str} (h : q.Pairwise fun x y => (!sLt y x) = true) (nd : q.Nodup) : q.Pairwise fun x y => sLt x y = true := by
  have := h.and nd
  exact this.imp fun {a b} z => sLt_or (by simpa using z.1) z.2
theorem tells_ascends (hl : q.length ≤ 900) (h : q.Pairwise fun x y => sLt x y = true) : Tells ascendsF [.tup (q.map D.str)] (· = .bl true) := by
  refine tells_run ?_
  have s0 : startG 3 [.tup (q.map D.str)] = [some (.tup (q.map D.str)), none, none] := rfl
  rw [s0]
  unfold ascendsB
  have cut : fCut (.tup (q.map D.str)) (some 1) none = some (.tup (q.tail.map D.str)) := by
    show some (D.tup (cutD (q.map D.str) (some 1) none)) = _
    congr 2
    cases q with
    | nil => rfl
    | cons a r =>
      have := cut1 (a := D.str a) (l := r.map D.str)
      unfold fCut at this
      simp only [Option.some.injEq, D.lst.injEq] at this
      exact this
  have src : SaysL (dVia zipL (dCons (dVar 0) (dCons (dCut (dVar 0) (pAt (dC (.int 1))) pNo) dNil))) [some (.tup (q.map D.str)), none, none] (· = (q.zip q.tail).map fun p => D.tup [.str p.1, .str p.2]) := by
    refine saysL_via (saysL_2 (says_var (d := .tup (q.map D.str)) rfl) (says_tail (says_var (d := .tup (q.map D.str)) rfl) cut)) ?_
    rw [← zipD_strs]; rfl
  refine does_ret (says_d1 (P1 := fun d => ∃ es : List D, d = .lst es ∧ ∀ e ∈ es, e = .bl true) (fun B g => ?_) fun d ⟨es, e, a⟩ => by subst e; exact ⟨_, fAll_true a, rfl⟩)
  obtain ⟨ds, B1, e1, g1, rfl⟩ := src B g
  obtain ⟨B2, e2, g2⟩ := compGo_filt (u := dYes) (f := d2 fLt (dVar 1) (dVar 2)) (g := fun p : Str × Str => D.tup [.str p.1, .str p.2]) (o := fun _ => .bl true) (keep := fun _ => true) (l := q.zip q.tail) (tgt := tgTup [1, 2]) (G0 := wipeG [some (.tup (q.map D.str)), none, none] [1, 2]) (fun p hp => ⟨[some (.tup (q.map D.str)), some (.str p.1), some (.str p.2)], rfl, fun B gb => ⟨true, B, rfl, gb, rfl⟩, fun _ => says_2 (says_var (d := .str p.1) rfl) (says_var (d := .str p.2) rfl) (by show some (D.bl (sLt p.1 p.2)) = _; rw [zip_up h p hp])⟩) B1 g1
  refine ⟨.lst (((q.zip q.tail).filter fun _ => true).map fun _ => .bl true), B2, ?_, g2, _, rfl, fun e he => ?_⟩
  · unfold dComp
    rw [e1, Option.bind_some]
    simp only
    rw [if_pos (line1000 (by rw [List.length_map, List.length_zip]; omega)), e2]; rfl
  · obtain ⟨_, _, rfl⟩ := List.mem_map.mp he
    rfl
theorem tells_isPart (h : LineOf m sorts ns es L) (hm : m ≤ 24) (ne : q ≠ []) (up : q.Pairwise fun x y => (!sLt y x) = true) (nd : q.Nodup) (sub : ∀ s ∈ q, s ∈ ns) (cnt : q.length = (es.filter (withinP q)).length + 1) : Tells isPartF [L, tupS q] (· = .bl true) := by
  have nl : ns.length = m := h.nms.len
  have el := h.el hm
  have ql : q.length ≤ 24 := Nat.le_trans (nd_len nd sub) (by omega)
  have qp : 0 < q.length := List.length_pos_iff.mpr ne
  refine tells_run ?_
  have s0 : startG 5 [L, tupS q] = [some L, some (tupS q), none, none, none] := rfl
  rw [s0]
  unfold isPartB
  have len : Says (d1 fLen (dVar 1)) [some L, some (tupS q), none, none, none] (· = .int (q.length : Nat)) := says_1 (says_var (d := tupS q) rfl) (by show some (D.int ((q.map D.str).length : Nat)) = _; rw [List.length_map])
  refine does_then (Pm := (· = [some L, some (tupS q), none, none, none])) (does_ifnot (saysT_or (P1 := (· = false)) (P2 := (· = false)) (saysT_not (PT := (· = true)) (saysT_asB ((says_1 (says_var (d := tupS q) rfl) (r := .bl true) (by rfl)).mono fun d e => ⟨_, e, rfl⟩)) fun c e => by rw [e]; rfl) (fun _ => saysT_asB ((says_2 len says_c (r := .bl false) (by
    show some (D.bl (decide (((q.length : Nat) : Int) = 0))) = _
    rw [decide_eq_false (by omega)])).mono fun d e => ⟨_, e, rfl⟩)) (fun e => by simp at e) fun c _ e => e) rfl) fun G e => ?_
  subst e
  refine does_then (Pm := (· = [some L, some (tupS q), none, none, none])) (does_ifnot (saysT_or (P1 := (· = false)) (P2 := (· = false)) (saysT_not (PT := (· = true)) (saysT_asB ((says_1 (says_mapped (l := q) (g := D.str) (o := fun _ => .bl true) (saysL_items (d := tupS q) (says_var rfl) rfl) (by omega) (by show 3 < 5; decide) fun s hs G1 h1 h2 => (says_call2 (says_var (h2 0 _ (by decide) rfl)) (says_var h1) (tells_station h s)).mono fun d e => by rw [e, decide_eq_true (sub s hs)]) (fAll_true fun d hd => by
    obtain ⟨_, _, rfl⟩ := List.mem_map.mp hd
    rfl)).mono fun d e => ⟨_, e, rfl⟩)) fun c e => by rw [e]; rfl) (fun _ => saysT_not (PT := (· = true)) (saysT_asB ((says_call1 (says_var (d := tupS q) rfl) (tells_ascends (by omega) (strict up nd))).mono fun d e => ⟨_, e, rfl⟩)) fun c e => by rw [e]; rfl) (fun e => by simp at e) fun c _ e => e) rfl) fun G e => ?_
  subst e
  refine does_then (Pm := (· = [some L, some (tupS q), some (.lst ((es.filter (withinP q)).map Sec.d)), none, none])) (does_set (P := (· = .lst ((es.filter (withinP q)).map Sec.d))) (says_filt (l := es) (g := Sec.d) (o := Sec.d) (keep := withinP q) (saysL_items (h.says1 rfl) rfl) (by omega) (by show 4 < 5; decide) fun x hx G1 h1 h2 => ⟨saysT_within (.inr h1) (h2 1 _ (by decide) rfl), fun _ => says_var h1⟩) fun d e => by subst e; rfl) fun G e => ?_
  subst e
  refine does_ret (says_2 (a := .int ((es.filter (withinP q)).length : Nat)) (b := .int (((q.length : Nat) : Int) - 1)) (says_1 (says_var (d := .lst ((es.filter (withinP q)).map Sec.d)) rfl) (by show some (D.int (((es.filter (withinP q)).map Sec.d).length : Nat)) = _; rw [List.length_map])) (says_2 (says_1 (says_var (d := tupS q) rfl) (by show some (D.int ((q.map D.str).length : Nat)) = _; rw [List.length_map])) says_c rfl) ?_)
  show some (D.bl (decide ((((es.filter (withinP q)).length : Nat) : Int) = ((q.length : Nat) : Int) - 1))) = _
  rw [decide_eq_true
          (by omega)]
end
end Xa
/-! YF4: a drawn LINE once more: its stations ascend. -/
namespace Xa
open PySem PySem.Spec PyProof.Rows L2 TL
theorem sort_up (ws : List Str) (hl : ∀ w ∈ ws, Lay w) (h : ws.length ≤ 100000) : ∃ vs : List Str, fSorted (.lst (ws.map D.str)) = some (.lst (vs.map D.str)) ∧ vs.Perm ws ∧ vs.Pairwise fun x y => (!sLt y x) = true :=
  ⟨sortS ws, fSorted_strs hl h, sortS_perm ws, sortS_up ws⟩
/-- the stations of a drawn LINE ascend -/
theorem tells_lineU {T Nm : FD} {m : Nat} {sorts : List Str} (hT : Draws T) (hN : Tells Nm [.non, .int m] (IsNames m)) (h0 : 0 < m) (hm : m ≤ 24) (hs : sorts ≠ []) (hsl : sorts.length ≤ 1000) (hsL : ∀ s ∈ sorts, Lay s) :
    Tells (runD 10 (lineB T (runD 2 (someB T)) Nm)) [.non, .int m, .lst (sorts.map D.str)] (fun d => ∃ ns es, LineOf m sorts ns es d ∧ ns.Pairwise fun x y => (!sLt y x) = true) := by
  refine tells_run ?_
  unfold lineB
  have s0 : startG 10 [.non, .int m, .lst (sorts.map D.str)] = [some .non, some (.int m), some (.lst (sorts.map D.str)), none, none, none, none, none, none, none] := rfl
  rw [s0]
  refine does_then (Pm := fun G => ∃ ns k, Names m ns ∧ LnG m sorts ns k [] G) (does_sets (PL := fun ds => ∃ ns k, Names m ns ∧ ds = [.lst (ns.map D.str), .lst [], .int k]) (saysL_cons (P1 := IsNames m) (PL := fun ds => ∃ k, ds = [.lst [], .int k]) (says_call (PL := (· = [.non, .int m])) (saysL_cons (PL := (· = [.int m])) (says_var rfl) (saysL_cons (says_var rfl) saysL_nil fun _ _ ea eb => by rw [ea, eb]) fun _ _ ea eb => by rw [ea, eb]) fun ds e => by subst e; exact hN) (saysL_cons (P1 := (· = .lst [])) (PL := fun ds => ∃ k, ds = [.int k]) (says_op saysL_nil fun ds e => by subst e; exact ⟨.lst [], by unfold semLst; rw [if_pos (line1000 (by simp))], rfl⟩) (saysL_cons (says_draw hT (m := 4) rfl (says_i rfl) (by decide) (by decide)) saysL_nil fun _ _ ⟨k, ea, _⟩ eb => ⟨k, by rw [ea, eb]⟩) fun _ _ ea ⟨k, eb⟩ => ⟨k, by rw [ea, eb]⟩) fun _ _ ⟨ns, ea, hn⟩ ⟨k, eb⟩ => ⟨ns, k, hn, by rw [ea, eb]⟩) fun ds ⟨ns, k, hn, e⟩ => by subst e; exact ⟨ns, k, hn, ⟨rfl, rfl, rfl, rfl, rfl, rfl, rfl⟩⟩) fun G ⟨ns, k, hn, hG⟩ => ?_
  let In : Nat → Gam → Prop := fun i G => ∃ es, LnG m sorts ns k es G ∧ Built sorts ns es ∧ es.length = i
  refine does_then (Pm := In (m - 1)) (does_for (ds := rangeD 1 m) (Inv := In) (saysL_range2 (says_i rfl) (says_vi hG.g1 rfl) ⟨by decide, by omega⟩) ⟨[], hG, built_nil, rfl⟩ ?_ fun G h => (show ((m : Int) - 1).toNat = m - 1 by omega) ▸ (rangeD_len (lo := 1) (hi := (m : Int)) ▸ h)) fun G ⟨es, hG, hb, hl⟩ => ?_
  · rintro i d G hd ⟨es, hG, hb, hl⟩
    obtain ⟨rfl, hi⟩ := rangeD_get hd
    refine ⟨_, rfl, ?_⟩
    have hG6 := hG.set (i := 6) (o := some (.int (1 + (i : Int)))) (by decide)
    have g6 : gat (G.set 6 (some (.int (1 + (i : Int))))) 6 = some (.int (1 + i)) := gat_set (by rw [hG.len]; decide)
    have im : i + 1 < ns.length := by rw [hn.len]; omega
    have eqk : ∀ {G : Gam} (j : Int), gat G 5 = some (.int k) → SaysT (asB (d2 fEq (dVar 5) (dC (.int j)))) G fun _ => True := fun j h => saysT_asB (says_d2 (says_var h) says_c fun d e e1 e2 => by subst e1 e2; exact ⟨_, rfl, _, rfl, trivial⟩)
    refine does_then (Pm := fun G => LnG m sorts ns k es G ∧ gat G 6 = some (.int (1 + (i : Int))) ∧ ∃ o : Nat, gat G 7 = some (.int o) ∧ o ≤ i) (does_set (P := IsI fun r => 0 ≤ r ∧ r ≤ i) (says_if (eqk 0 hG6.g5) (fun _ => ?_) fun _ => says_if (eqk 1 hG6.g5) (fun _ => says_i ⟨by decide, by omega⟩) fun _ => ?_) fun d ⟨r, e, r0, r1⟩ => ?_) fun G ⟨hG, g6, o, g7, ho⟩ => ?_
    · exact says_d2 (P1 := (· = .int (1 + (i : Int)))) (P2 := (· = .int 1)) (says_var g6) says_c fun d e e1 e2 => by subst e1 e2; exact ⟨_, rfl, .mk ⟨by omega, by omega⟩⟩
    · exact (says_draw hT (m := 1 + (i : Int)) hG6.g0 (says_vi g6 rfl) (by omega) (by omega)).mono fun d ⟨r, e, a, b⟩ => ⟨r, e, a, by omega⟩
    · subst e
      exact ⟨hG6.set (by decide), by rw [gat_ne (by decide)]; exact g6, r.toNat, by rw [gat_set (by rw [hG6.len]; decide), Int.toNat_of_nonneg r0], by omega⟩
    obtain ⟨u, hu⟩ : ∃ u, ns[i + 1]? = some u := ⟨_, List.getElem?_eq_getElem im⟩
    obtain ⟨v, hv⟩ : ∃ v, ns[o]? = some v := ⟨_, List.getElem?_eq_getElem (by omega)⟩
    have hne : u ≠ v := fun e => by
      subst e
      have := (List.getElem?_inj im hn.nd).mp (hu.trans hv.symm)
      omega
    have lay : ∀ {w}, w ∈ ns → Lay w := fun h => word_lay (hn.word _ h)
    refine does_then (Pm := fun G => LnG m sorts ns k es G ∧ ∃ x y, gat G 8 = some (.str x) ∧ gat G 9 = some (.str y) ∧ ((x = u ∧ y = v) ∨ (x = v ∧ y = u)) ∧ sLt x y = true) (does_unpackL ((says_pair (a := u) (b := v) (says_d2 (says_var hG.g3) (says_var g6) fun d e e1 e2 => ?_) (says_d2 (says_var hG.g3) (says_var g7) fun d e e1 e2 => ?_) (lay (List.mem_of_getElem? hu)) (lay (List.mem_of_getElem? hv)) hne).mono fun d ⟨x, y, e, h1, h2⟩ => ?_)) fun G ⟨hG, x, y, g8, g9, hxy, hlt⟩ => ?_
    · subst e1 e2
      refine ⟨_, ?_, rfl⟩
      have e : (1 + (i : Int)) = ((i + 1 : Nat) : Int) := by omega
      rw [e]; exact fIdx_strs hu
    · subst e1 e2
      exact ⟨_, fIdx_strs hv, rfl⟩
    · subst e
      exact ⟨_, rfl, rfl, (hG.set (by decide)).set (by decide), x, y, by show gat ((G.set 8 _).set 9 _) 8 = _; rw [gat_ne (by decide), gat_set (by rw [hG.len]; decide)], gat_set (by rw [List.length_set, hG.len]; decide), h1, h2⟩
    refine does_mt hT (ds := es.map Sec.d) hG.g4 (PL := fun ds => ∃ s, ds = [.tup [.str x, .str y, .str s]] ∧ s ∈ sorts) (saysL_cons (P1 := fun d => ∃ s, d = .tup [.str x, .str y, .str s] ∧ s ∈ sorts) (says_op (PL := fun ds => ∃ s, ds = [.str x, .str y, .str s] ∧ s ∈ sorts) (saysL_cons (PL := fun ds => ∃ s, ds = [.str y, .str s] ∧ s ∈ sorts) (says_var g8) (saysL_cons (PL := fun ds => ∃ s, ds = [.str s] ∧ s ∈ sorts) (says_var g9) (saysL_cons (P1 := fun d => ∃ s, d = .str s ∧ s ∈ sorts) (says_call (PL := (· = [.non, .lst (sorts.map D.str)])) (saysL_cons (PL := (· = [.lst (sorts.map D.str)])) (says_var hG.g0) (saysL_cons (says_var hG.g2) saysL_nil fun _ _ ea eb => by rw [ea, eb]) fun _ _ ea eb => by rw [ea, eb]) fun ds e => by
        subst e
        refine (tells_someL hT (ds := sorts.map D.str) (by simpa using hs) (by rw [List.length_map]; omega)).mono fun d hd => ?_
        obtain ⟨s, h, e⟩ := List.mem_map.mp hd
        exact ⟨s, e.symm, h⟩) saysL_nil fun _ _ ⟨s, ea, h⟩ eb => ⟨s, by rw [ea, eb], h⟩) fun _ _ ea ⟨s, eb, h⟩ => ⟨s, by rw [ea, eb], h⟩) fun _ _ ea ⟨s, eb, h⟩ => ⟨s, by rw [ea, eb], h⟩) fun ds ⟨s, e, h⟩ => by subst e; exact ⟨_, by unfold semTup; rw [if_pos (line1000 (by simp))], s, rfl, h⟩) saysL_nil fun _ _ ⟨s, ea, h⟩ eb => ⟨s, by rw [ea, eb], h⟩) fun ds ⟨s, e, hs'⟩ => ?_
    subst e
    refine ⟨_, .non, by unfold mAppend; simp only; rw [if_pos (Nat.lt_of_lt_of_le (show (es.map Sec.d).length < 1000 by rw [List.length_map]; omega) (line1000 (by decide)))], es ++ [⟨x, y, s⟩], ⟨by rw [List.length_set]; exact hG.len, by rw [gat_ne (by decide)]; exact hG.g0, by rw [gat_ne (by decide)]; exact hG.g1, by rw [gat_ne (by decide)]; exact hG.g2, by rw [gat_ne (by decide)]; exact hG.g3, by rw [gat_set (by rw [hG.len]; decide), List.map_append]; rfl, by rw [gat_ne (by decide)]; exact hG.g5⟩, hb.snoc (x := ⟨x, y, s⟩) (u := u) (v := v) (o := o) (by rw [hl]; exact hu) (by omega) hv hxy hlt hs', by rw [List.length_append, hl]; rfl⟩
  · have lay : ∀ {w}, w ∈ ns → Lay w := fun h => word_lay (hn.word _ h)
    have layE : ∀ x ∈ es, Lay x.a ∧ Lay x.b ∧ Lay x.s := fun x hx => by
      obtain ⟨i, hi⟩ := List.getElem?_of_mem hx
      obtain ⟨u, o, v, hu, _, hv, hj, _, hs'⟩ := hb.join i x hi
      have l1 := lay (List.mem_of_getElem? hu)
      have l2 := lay (List.mem_of_getElem? hv)
      rcases hj with ⟨e1, e2⟩ | ⟨e1, e2⟩
      · exact ⟨e1 ▸ l1, e2 ▸ l2, hsL _ hs'⟩
      · exact ⟨e1 ▸ l2, e2 ▸ l1, hsL _ hs'⟩
    obtain ⟨vs, v1, v2, v3⟩ := sort_up ns (fun w h => lay h) (by rw [hn.len]; omega)
    obtain ⟨xs, x1, x2⟩ := sort_secs es layE (by omega)
    refine does_ret (says_op (PL := (· = [.tup (vs.map D.str), .tup (xs.map Sec.d)])) (saysL_cons (P1 := (· = .tup (vs.map D.str))) (PL := (· = [.tup (xs.map Sec.d)])) (says_d1 (says_d1 (P := (· = .lst (vs.map D.str))) (says_var hG.g3) fun d e => by subst e; exact ⟨_, v1, rfl⟩) fun d e => by subst e; exact ⟨_, rfl, rfl⟩) (saysL_cons (P1 := (· = .tup (xs.map Sec.d))) (says_d1 (says_d1 (P := (· = .lst (xs.map Sec.d))) (says_own hG.g4) fun d e => by subst e; exact ⟨_, x1, rfl⟩) fun d e => by subst e; exact ⟨_, rfl, rfl⟩) saysL_nil fun _ _ ea eb => by rw [ea, eb]) fun _ _ ea eb => by rw [ea, eb]) fun ds e => ?_)
    subst e
    exact ⟨_, by unfold semTup; rw [if_pos (line1000 (by simp))], vs, xs, ⟨rfl, ⟨v2.nodup_iff.mpr hn.nd, fun w hw => hn.word w (v2.mem_iff.mp hw), by rw [v2.length_eq, hn.len]⟩, ns, es, hb, hl, v2, x2⟩, v3⟩
def IsLineU (d : D) : Prop := ∃ m sorts ns es, LineOf m sorts ns es d ∧ m ≤ 24 ∧ (∀ s ∈ sorts, s ∈ sorts3) ∧ 0 < m ∧ ns.Pairwise fun x y => (!sLt y x) = true
theorem says_somelineU {G : Gam} {ms : List Nat} {fs : DA} (g1 : gat G 1 = some .non) (hf : Says (dOp semLst fs) G (· = .lst (ms.map fun m : Nat => D.int m))) (h0 : ms ≠ []) (hl : ms.length ≤ 100) (hm : ∀ m ∈ ms, 0 < m ∧ m ≤ 24) :
    Says (dCall lineF (dCons (dVar 1) (dCons (dCall someF (dCons (dVar 1) (dCons (dOp semLst fs) dNil))) (dCons (dCall sortsF (dCons (dVar 1) dNil)) dNil)))) G IsLineU := by
  refine says_call (PL := fun ds => ∃ m ∈ ms, ∃ ss : List Str, ds = [.non, .int (m : Nat), .lst (ss.map D.str)] ∧ ss ≠ [] ∧ ss.length ≤ 4 ∧ ∀ s ∈ ss, s ∈ sorts3) (saysL_cons (P1 := (· = .non)) (PL := fun ds => ∃ m ∈ ms, ∃ ss : List Str, ds = [.int (m : Nat), .lst (ss.map D.str)] ∧ ss ≠ [] ∧ ss.length ≤ 4 ∧ ∀ s ∈ ss, s ∈ sorts3) (says_var g1) (saysL_cons (P1 := fun d => ∃ m ∈ ms, d = .int (m : Nat)) (PL := fun ds => ∃ ss : List Str, ds = [.lst (ss.map D.str)] ∧ ss ≠ [] ∧ ss.length ≤ 4 ∧ ∀ s ∈ ss, s ∈ sorts3) (says_call2 (says_var g1) hf ((tells_someL draws_take (by simpa using h0) (by rw [List.length_map]; omega)).mono fun d hd => ?_)) (saysL_cons (P1 := fun d => ∃ ss : List Str, d = .lst (ss.map D.str) ∧ ss ≠ [] ∧ ss.length ≤ 4 ∧ ∀ s ∈ ss, s ∈ sorts3) (says_call1 (says_var g1) (tells_mixed_sorts draws_take)) saysL_nil ?_) ?_) ?_) fun ds ⟨m, hmm, ss, e, h1, h2, h3⟩ => ?_
  · obtain ⟨m, hm, e⟩ := List.mem_map.mp hd
    exact ⟨m, hm, e.symm⟩
  · rintro d ds ⟨ss, e, h⟩ rfl
    exact ⟨ss, by rw [e], h⟩
  · rintro d ds ⟨m, hm, e⟩ ⟨ss, e2, h⟩
    exact ⟨m, hm, ss, by rw [e, e2], h⟩
  · rintro d ds e ⟨m, hm, ss, e2, h⟩
    exact ⟨m, hm, ss, by rw [e, e2], h⟩
  · subst e
    obtain ⟨p, q⟩ := hm m hmm
    exact (tells_lineU draws_take (tells_names draws_take p q) p q h1 (by omega) fun s hs => lay3 s (h3 s hs)).mono fun d ⟨ns, es, h, up⟩ => ⟨m, ss, ns, es, h, q, h3, p, up⟩
end Xa
/-! YF5: the two sides of a section. -/
namespace Xa
open PySem PySem.Spec
open PyProof.Rows L2
section
variable {m : Nat} {sorts ns : List Str} {es fs : List Sec} {L : D} {x : Sec} {a b s : Str}
theorem cmpS_same (hf : Fits2 ns fs) (h : Rch fs s b) : cmpS ns fs s = cmpS ns fs b := by
  unfold cmpS
  refine congrArg sortS (List.filter_congr fun v _ => decide_eq_decide.mpr ⟨fun z => (h.symm hf).trans z, fun z => h.trans z⟩)
theorem fold_cover : ∀ (l : List Str) (P : List (List Str)), (∀ s ∈ l, s ∈ ns) → (∀ q ∈ P, q ∈ l.foldl (stepP ns fs) P) ∧ (∀ s ∈ l, ∃ q ∈ l.foldl (stepP ns fs) P, s ∈ q) ∧ ∀ q ∈ l.foldl (stepP ns fs) P, q ∈ P ∨ ∃ s ∈ l, q = cmpS ns fs s
  | [], P, _ => ⟨fun q z => z, fun s z => (nomatch z), fun q z => .inl z⟩
  | s :: l, P, hs => by
    obtain ⟨a1, a2, a3⟩ := fold_cover l (stepP ns fs P s) fun t ht => hs t (List.mem_cons_of_mem _ ht)
    have sup : ∀ q ∈ P, q ∈ stepP ns fs P s := fun q hq => by
      unfold stepP
      split
      · exact hq
      · exact List.mem_append_left _
              hq
    have cov : ∃ q ∈ stepP ns fs P s, s ∈ q := by
      unfold stepP
      split
      · assumption
      · exact ⟨_, List.mem_append_right _ List.mem_cons_self, cmpS_mem.mpr ⟨hs s List.mem_cons_self, .here⟩⟩
    refine ⟨fun q hq => a1 q (sup q hq), fun t ht => ?_, fun q hq => ?_⟩
    · rcases List.mem_cons.mp ht with e | ht
      · obtain ⟨q, hq, z⟩ := cov
        exact ⟨q, a1 q hq, e ▸ z⟩
      · exact a2 t ht
    · rcases a3 q hq with h1 | ⟨t, ht, e⟩
      · unfold stepP at h1
        split at h1
        · exact .inl h1
        · rcases List.mem_append.mp h1 with h1 | h1
          · exact .inl h1
          · exact .inr ⟨s, List.mem_cons_self, List.mem_singleton.mp h1⟩
      · exact .inr ⟨t, List.mem_cons_of_mem _ ht, e⟩
/-- the one part that has b -/
theorem parts_with (hf : Fits2 ns fs) (hb : b ∈ ns) : ∃ r, (partsL ns fs ns).filter (fun q => decide (b ∈ q)) = cmpS ns fs b :: r := by
  obtain ⟨_, cov, are⟩ := fold_cover (fs := fs) ns [] fun s hs => hs
  obtain ⟨q, hq, z⟩ := cov b hb
  cases e : (partsL ns fs ns).filter (fun q => decide (b ∈ q)) with
  | nil => exact absurd (List.mem_filter.mpr ⟨hq, decide_eq_true z⟩) (by rw [show ns.foldl (stepP ns fs) [] = partsL ns fs ns from rfl, e]; simp)
  | cons c r =>
    have hc : c ∈ (partsL ns fs ns).filter fun q => decide (b ∈ q) := by rw [e]; exact List.mem_cons_self
    obtain ⟨h1, h2⟩ := List.mem_filter.mp hc
    rcases are c h1 with h | ⟨t, ht, et⟩
    · cases h
    · subst et
      exact ⟨r, by rw [cmpS_same hf (cmpS_mem.mp (of_decide_eq_true h2)).2]⟩
/-- a section that has not the end a is another one -/
theorem notLot_of {y : Sec} (hj : x.joins a b) {u v : Str} (j : y.joins u v) (h : (u ≠ a ∧ v ≠ a) ∨ (u = a ∧ v ≠ b ∧ v ≠ a) ∨ (v = a ∧ u ≠ b ∧ u ≠ a)) : notLot [x] y = true := by
  unfold notLot
  simp only [List.any_cons, List.any_nil, Bool.or_false, Bool.not_eq_true', decide_eq_false_iff_not]
  rintro ⟨h1, h2⟩
  rcases hj with ⟨c1, c2⟩ | ⟨c1, c2⟩ <;> rcases j with ⟨d1, d2⟩ | ⟨d1, d2⟩ <;> rw [c1, d1] at h1 <;> rw [c2, d2] at h2 <;> subst h1 h2 <;> simp at h
theorem walk_far (hf : Fits2 ns es) (hj : x.joins a b) : ∀ {l : List Str} {c t : Str}, Walk (Adj es) (c :: l) → a ∉ c :: l → (c :: l).getLast? = some t → Rch (es.filter (notLot [x])) c t
  | [], c, t, _, _, e => by cases e; exact .here
  | d :: l, c, t, w, n, e => by
    have nc : c ≠ a := fun z => n (z ▸ List.mem_cons_self)
    have nd : d ≠ a := fun z => n (z ▸ List.mem_cons_of_mem _ List.mem_cons_self)
    obtain ⟨y, hy, j⟩ := (adj_iff hf).mp w.1
    have st : Adj (es.filter (notLot [x])) c d := (adj_iff (fits_filter hf _)).mpr ⟨y, List.mem_filter.mpr ⟨hy, notLot_of hj j (.inl ⟨nc, nd⟩)⟩, j⟩
    rw [List.getLast?_cons_cons] at e
    exact (Rch.step .here st).trans (walk_far hf hj w.2 (fun z => n (List.mem_cons_of_mem _ z)) e)
/-- a way from a that begins with b, and one that does not -/
theorem side_there (hf : Fits2 ns es) (hj : x.joins a b) {l : List Str} (h : PathOf ns es a s (a :: b :: l)) : Rch (es.filter (notLot [x])) b s := by
  have nd := List.nodup_cons.mp h.nd
  have e := h.tl
  rw [List.getLast?_cons_cons] at e
  exact walk_far hf hj h.walk.2 nd.1 e
theorem side_back (hf : Fits2 ns es) (hj : x.joins a b) {l : List Str} (h : PathOf ns es a s (a :: l)) (n : l.head? ≠ some b) : Rch (es.filter (notLot [x])) a s := by
  cases l with
  | nil =>
    have e := h.tl
    cases e
    exact .here
  | cons c l =>
    have nd := List.nodup_cons.mp h.nd
    have nc : c ≠ a := fun z => nd.1 (z ▸ List.mem_cons_self)
    have nb : c ≠ b := fun z => n (by rw [z]; rfl)
    obtain ⟨y, hy, j⟩ := (adj_iff hf).mp h.walk.1
    have st : Adj (es.filter (notLot [x])) a c := (adj_iff (fits_filter hf _)).mpr ⟨y, List.mem_filter.mpr ⟨hy, notLot_of hj j (.inr (.inl ⟨rfl, nb, nc⟩))⟩, j⟩
    have e := h.tl
    rw [List.getLast?_cons_cons] at e
    exact (Rch.step .here st).trans (walk_far hf hj h.walk.2 nd.1 e)
/-- a and b are parted -/
theorem LineOf.parted (h : LineOf m sorts ns es L) (h0 : 0 < m) (hx : x ∈ es) (hj : x.joins a b) : ¬ Rch (es.filter (notLot [x])) a b := by
  obtain ⟨rep, ok⟩ := h.reps h0 (notLot [x])
  obtain ⟨f1, f2, _⟩ := h.fits x hx
  have np : notLot [x] x = false := by unfold notLot; simp
  have no := ok.no x hx np
  rcases hj with ⟨c1, c2⟩ | ⟨c1, c2⟩
  · subst c1 c2
    exact fun r => no ((rch_rep h.fits ok f1 f2).mp r)
  · subst c1 c2
    exact fun r => no ((rch_rep h.fits ok f2 f1).mp r).symm
/-- which side a station is on, by the way to it -/
theorem LineOf.side (h : LineOf m sorts ns es L) (h0 : 0 < m) (hx : x ∈ es) (hj : x.joins a b) {l : List Str} (w : PathOf ns es a s (a :: l)) : (l.head? = some b ↔ Rch (es.filter (notLot [x])) b s) ∧ (l.head? ≠ some b ↔ Rch (es.filter (notLot [x])) a s) := by
  have hf := h.fits
  have yes : l.head? = some b → Rch (es.filter (notLot [x])) b s := fun e => by
    cases l with
    | nil => cases e
    | cons c l => cases e; exact side_there hf hj w
  have no : l.head? ≠ some b → Rch (es.filter (notLot [x])) a s := fun e => side_back hf hj w e
  have not2 : Rch (es.filter (notLot [x])) a s → Rch (es.filter (notLot [x])) b s → False := fun r1 r2 => h.parted h0 hx hj (r1.trans (r2.symm (fits_filter hf _)))
  exact ⟨⟨yes, fun r => Classical.byContradiction fun e => not2 (no e) r⟩, ⟨no, fun r e => not2 r (yes e)⟩⟩
theorem cmpS_up (up : ns.Pairwise fun x y => (!sLt y x) = true) (keep : Str → Bool) (h : ∀ v ∈ ns, keep v = true ↔ Rch fs s v) : ns.filter keep = cmpS ns fs s := by
  classical
  have e : (ns.filter keep) = ns.filter fun v => decide (Rch fs s v) := List.filter_congr fun v hv => by
    rw [Bool.eq_iff_iff, decide_eq_true_eq]; exact h v hv
  unfold cmpS
  rw [e]
  have e2 : (ns.filter fun v => decide (Rch fs s v)).Pairwise fun x y => (!sLt y x) = true := up.sublist List.filter_sublist
  exact (sortS_sorted e2).symm.trans (congrArg sortS (List.filter_congr fun v _ => decide_eq_decide.mpr Iff.rfl))
end
end Xa
/-! YF6: beyond; _law_are_sides_right. -/
namespace Xa
open PySem PySem.Spec
open PyProof.Rows L2
noncomputable abbrev cutF : FD := runD 9 (cutB keysF linksF stepsF)
noncomputable def beyondB (Cu Ky : FD) : DS := (sRet (d2 fIdx (dComp (dItems (dCall Cu (dCons (dVar 0) (dCons (dOp semTup (dCons (dCall Ky (dCons (dVar 1) (dCons (dVar 2) dNil))) dNil)) dNil)))) [3] (tgName 3) (asB (d2 fIn (dVar 2) (dVar 3))) (dVar 3)) (dC (.int 0))))
noncomputable abbrev beyondF : FD := runD 4 (beyondB cutF keyF)
section
variable {m : Nat} {sorts ns : List Str} {es lt : List Sec} {L : D} {x : Sec} {a b s : Str} {G : Gam}
theorem parts_len (nd : ns.Nodup) (fs : List Sec) : ∀ (l : List Str) (P : List (List Str)), (l.foldl (stepP ns fs) P).length ≤ P.length + l.length
  | [], P => Nat.le_refl _
  | s :: l, P => by
    have h1 := parts_len nd fs l (stepP ns fs P s)
    have h2 := stepP_len (ns := ns) (es := fs) P s
    rw [List.foldl_cons, List.length_cons]; omega
theorem tells_beyond (h : LineOf m sorts ns es L) (hm : m ≤ 24) (hx : x ∈ es) (hb : b ∈ ns) (hk : keyD a b = x.key) : Tells beyondF [L, .str a, .str b] (· = tupS (cmpS ns (es.filter (notLot [x])) b)) := by
  have nl : ns.length = m := h.nms.len
  refine tells_run ?_
  have s0 : startG 4 [L, .str a, .str b] = [some L, some (.str a), some (.str b), none] := rfl
  rw [s0]
  unfold beyondB
  obtain ⟨r, er⟩ := parts_with (fits_filter h.fits (notLot [x])) hb
  have pl := parts_len h.nms.nd (es.filter (notLot [x])) ns []
  simp only [List.length_nil] at pl
  have ps : Says (dCall cutF (dCons (dVar 0) (dCons (dOp semTup (dCons (dCall keyF (dCons (dVar 1) (dCons (dVar 2) dNil))) dNil)) dNil))) [some L, some (.str a), some (.str b), none] (· = .tup ((partsL ns (es.filter (notLot [x])) ns).map tupS)) :=
    says_call2 (says_var (d := L) rfl) (says_tup (saysL_one ((says_call2 (says_var (d := .str a) rfl) (says_var (d := .str b) rfl) tells_key).mono fun d e => e.trans hk)) (by simp)) (tells_cut (lt := [x]) h hm (fun y hy => (List.mem_singleton.mp hy) ▸ hx) (by simp))
  refine does_ret (says_2 (says_filt (l := partsL ns (es.filter (notLot [x])) ns) (g := tupS) (o := tupS) (keep := fun q => decide (b ∈ q)) (saysL_items (d := .tup ((partsL ns (es.filter (notLot [x])) ns).map tupS)) ps rfl) (by unfold partsL; omega) (by show 3 < 4; decide) fun q hq G1 h1 h2 => ⟨saysT_asB ((says_2 (says_var (h2 2 _ (by decide) rfl)) (says_var h1) (fIn_tup b q)).mono fun d e => ⟨_, e, rfl⟩), fun _ => says_var h1⟩) says_c ?_)
  rw [er]
  exact idx0_lst
/-- a way's first station is b -/
def starts (b : Str) (l : List Str) : Bool := decide (l.head? = some b)
theorem fEq_first (hb : Lay b) {l : List Str} (hl : ∀ w ∈ l, Lay w) (hc : l.length ≤ 900) : ∃ r, fCut (.tup (l.map D.str)) none (some 1) = some r ∧ fEq r (.tup [.str b]) = some (.bl (starts b l)) := by
  have sh : ∀ w, Lay w → shp (.tup [.str w]) = true := fun w hw => (nice_tup (k := 0) (n := w.length) (c := 1) (fun d hd => by
    rw [List.mem_singleton.mp hd]; exact nice_str hw (Nat.le_refl _)) (by simp)).sh (by decide)
  cases l with
  | nil =>
    refine ⟨.tup [], by show some (D.tup (cutD [] none (some 1))) = _; unfold cutD; simp, ?_⟩
    unfold fEq
    simp only
    rw [if_pos ⟨by decide +kernel, sh b hb⟩]
    rfl
  | cons c l =>
    refine ⟨.tup [.str c], ?_, ?_⟩
    · show some (D.tup (cutD ((c :: l).map D.str) none (some 1))) = _
      unfold cutD HT.sIx
      simp
    · unfold fEq
      simp only
      rw [if_pos ⟨sh c (hl c List.mem_cons_self), sh b hb⟩]
      unfold starts
      by_cases e : c = b
      · subst e; simp [py, pyL, PyData.eqv, PyData.eqvAll]
      · simp [py, pyL, PyData.eqv, PyData.eqvAll, e]
end
end Xa
/-! YF7: _law_are_sides_right. -/
namespace Xa
open PySem PySem.Spec
open PyProof.Rows L2
noncomputable def sidesB (Be Wa Al : FD) : DS := (sThen (sFor (dItems (d2 fIdx (dVar 0) (dC (.int 1)))) (tgTup [2, 3, 4]) (sThen (sSets [5, 6] (dCons (dCall Be (dCons (dVar 0) (dCons (dVar 2) (dCons (dVar 3) dNil)))) (dCons (dCall Be (dCons (dVar 0) (dCons (dVar 3) (dCons (dVar 2) dNil)))) dNil)))
  (sThen (sSet 7 (dCall Wa (dCons (dVar 1) (dCons (dVar 2) dNil))))
  (sThen (sSet 8 (d1 fTuple (dComp (dItems (d2 fIdx (dVar 0) (dC (.int 0)))) [9] (tgName 9) (asB (d2 fEq (dCut (d2 fIdx (dVar 7) (dVar 9)) pNo (pAt (dC (.int 1)))) (dOp semTup (dCons (dVar 3) dNil)))) (dVar 9))))
  (sIf (tNotD (asB (dCall Al (dCons (dOp semLst (dCons (dVar 5) (dCons (dVar 6) dNil))) (dCons (dOp semLst (dCons (dVar 8) (dCons (d1 fTuple (dComp (dItems (d2 fIdx (dVar 0) (dC (.int 0)))) [9] (tgName 9) (asB (d2 fNotIn (dVar 9) (dVar 8))) (dVar 9))) dNil))) dNil))))) (sRet (dC (.bl false))) sSkip)))))
  (sRet (dC (.bl true))))
section
variable {m : Nat} {sorts ns : List Str} {es : List Sec} {L : D} {x : Sec}
theorem keyD_ba {a b : Str} (h : sLt a b = true) : keyD a b = .tup [.str a, .str b] := by
  unfold keyD
  rw [if_pos h]
theorem tells_sides (h : LineOf m sorts ns es L) (h0 : 0 < m) (hm : m ≤ 24) (up : ns.Pairwise fun x y => (!sLt y x) = true) (hlt : ∀ x ∈ es, sLt x.a x.b = true) :
    Tells (runD 10 (sidesB beyondF waysF alikeF)) [L, .dic (nearK ns (nbL es))] (· = .bl true) := by
  have nl : ns.length = m := h.nms.len
  refine tells_run ?_
  generalize hN : (.dic (nearK ns (nbL es)) : D) = N
  have s0 : startG 10 [L, N] = [some L, some N, none, none, none, none, none, none, none, none] := rfl
  rw [s0]
  unfold sidesB
  let In : Gam → Prop := fun G => ∃ y2 y3 y4 y5 y6 y7 y8, G = [some L, some N, y2, y3, y4, y5, y6, y7, y8, none]
  refine does_then (Pm := In) (does_each (PS := (· = es.map Sec.d)) (J := In) (saysL_items (h.says1 rfl) rfl) ⟨_, _, _, _, _, _, _, rfl⟩ ?_ fun G g => g) fun G _ => does_ret says_c
  rintro ds rfl d hd G ⟨y2, y3, y4, y5, y6, y7, y8, rfl⟩
  obtain ⟨x, hx, rfl⟩ := List.mem_map.mp hd
  obtain ⟨fa, fb, fne⟩ := h.fits x hx
  have lt := hlt x hx
  have hj : x.joins x.a x.b := .inl ⟨rfl, rfl⟩
  refine ⟨[some L, some N, some (.str x.a), some (.str x.b), some (.str x.s), y5, y6, y7, y8, none], rfl, ?_⟩
  generalize hA : cmpS ns (es.filter (notLot [x])) x.a = A
  generalize hB : cmpS ns (es.filter (notLot [x])) x.b = Bb
  have sb : Says (dCall beyondF (dCons (dVar 0) (dCons (dVar 2) (dCons (dVar 3) dNil)))) [some L, some N, some (.str x.a), some (.str x.b), some (.str x.s), y5, y6, y7, y8, none] (· = tupS Bb) := by
    rw [← hB]
    exact says_call3 (says_var rfl) (says_var rfl) (says_var rfl) (tells_beyond h hm hx fb (keyD_ba lt))
  have sa : Says (dCall beyondF (dCons (dVar 0) (dCons (dVar 3) (dCons (dVar 2) dNil)))) [some L, some N, some (.str x.a), some (.str x.b), some (.str x.s), y5, y6, y7, y8, none] (· = tupS A) := by
    rw [← hA]
    exact says_call3 (says_var rfl) (says_var rfl) (says_var rfl) (tells_beyond h hm hx fa (keyD_ab lt))
  refine does_then (Pm := (· = [some L, some N, some (.str x.a), some (.str x.b), some (.str x.s), some (tupS Bb), some (tupS A), y7, y8, none])) (does_sets (PL := (· = [tupS Bb, tupS A])) (saysL_2 sb sa) fun ds e => by subst e; rfl) fun G e => ?_
  subst e
  refine does_then (Pm := fun G => ∃ fd, G = [some L, some N, some (.str x.a), some (.str x.b), some (.str x.s), some (tupS Bb), some (tupS A), some (.dic (wayK fd)), y8, none] ∧ WaOk ns es x.a fd ∧ ∀ s, s ∈ keysW fd ↔ s ∈ ns) (does_set (P := fun d => ∃ fd, d = .dic (wayK fd) ∧ WaOk ns es x.a fd ∧ ∀ s, s ∈ keysW fd ↔ s ∈ ns) (says_call2 (says_var (d := N) rfl) (says_var (d := .str x.a) rfl) (by rw [← hN]; exact tells_ways h fa (by omega))) fun d ⟨fd, e, ok, all⟩ => ⟨fd, by subst e; rfl, ok, all⟩) fun G ⟨fd, e, ok, all⟩ => ?_
  subst e
  have wayOf : ∀ s, ∃ l, s ∈ ns → (s, l) ∈ fd := fun s => by
    by_cases hs : s ∈ ns
    · obtain ⟨p, hp, e⟩ := List.mem_map.mp ((all s).mpr hs)
      exact ⟨p.2, fun _ => e ▸ hp⟩
    · exact ⟨[], fun z => absurd z hs⟩
  obtain ⟨wy, hwy⟩ : ∃ wy : Str → List Str, ∀ s, s ∈ ns → (s, wy s) ∈ fd := ⟨fun s => Classical.choose (wayOf s), fun s => Classical.choose_spec (wayOf s)⟩
  have side : ∀ s ∈ ns, _ := fun s hs => h.side h0 hx hj (ok.path (hwy s hs))
  have eB : ns.filter (fun s => starts x.b (wy s)) = Bb := by
    rw [← hB]
    exact cmpS_up up _ fun s hs => by unfold starts; rw [decide_eq_true_eq]; exact (side s hs).1
  have inB : ∀ s, s ∈ Bb ↔ s ∈ ns ∧ (wy s).head? = some x.b := fun s => by rw [← eB, List.mem_filter]; unfold starts; rw [decide_eq_true_eq]
  have eA : ns.filter (fun s => decide (s ∉ Bb)) = A := by
    rw [← hA]
    refine cmpS_up up _ fun s hs => ?_
    rw [decide_eq_true_eq, ← (side s hs).2, inB]
    exact ⟨fun z e => z ⟨hs, e⟩, fun z e => z e.2⟩
  have subA : ∀ w ∈ A, w ∈ ns := fun w hw => by rw [← eA] at hw; exact (List.mem_filter.mp hw).1
  have subB : ∀ w ∈ Bb, w ∈ ns := fun w hw => ((inB w).mp hw).1
  have lenA : A.length ≤ 24 := by rw [← eA]; exact Nat.le_trans (List.length_filter_le _ _) (by omega)
  have lenB : Bb.length ≤ 24 := by rw [← eB]; exact Nat.le_trans (List.length_filter_le _ _) (by omega)
  refine does_then (Pm := (· = [some L, some N, some (.str x.a), some (.str x.b), some (.str x.s), some (tupS Bb), some (tupS A), some (.dic (wayK fd)), some (tupS Bb), none])) (does_set (P := (· = tupS Bb)) (says_1 (says_filt (l := ns) (g := D.str) (o := D.str) (keep := fun s => starts x.b (wy s)) (saysL_items (d := .tup (ns.map D.str)) (h.says0 rfl) rfl) (by omega) (by show 9 < 10; decide) fun s hs G1 h1 h2 => ?_) (by rw [eB]; rfl)) fun d e => by subst e; rfl) fun G e => ?_
  · have pth := ok.path (hwy s hs)
    have sub : ∀ w ∈ wy s, w ∈ ns := fun w hw => pth.inN w (List.mem_cons_of_mem _ hw)
    have ll : (wy s).length ≤ 900 := by have := pth.len; rw [List.length_cons] at this; omega
    obtain ⟨r, r1, r2⟩ := fEq_first (h.layN x.b fb) (fun w hw => h.layN w (sub w hw)) ll
    exact ⟨saysT_asB ((says_2 (says_cutTo2 (P' := (· = r)) (says_2 (says_var (h2 7 _ (by decide) rfl)) (says_var h1) (fIdx_way ok.nd (hwy s hs))) fun d e => by subst e; exact ⟨r, r1, rfl⟩) (says_tup (saysL_one (says_var (h2 3 _ (by decide) rfl))) (by simp)) r2).mono fun d e => ⟨_, e, rfl⟩), fun _ => says_var h1⟩
  · subst e
    have two : Nice 2 1000 (.lst [tupS Bb, tupS A]) := (nice_lst (k := 1) (n := 312) (c := 2) (fun d hd => by
      rcases List.mem_cons.mp hd with e | hd
      · subst e; exact h.nT hm subB lenB
      · rw [List.mem_singleton.mp hd]; exact h.nT hm subA lenA) (Nat.le_refl _)).mono (by decide) (by decide)
    refine does_unless (says_call2 (says_lst (saysL_2 (says_var (d := tupS Bb) rfl) (says_var (d := tupS A) rfl)) (by simp)) (says_lst (saysL_2 (says_var (d := tupS Bb) rfl) (says_1 (says_filt (l := ns) (g := D.str) (o := D.str) (keep := fun s => decide (s ∉ Bb)) (saysL_items (d := .tup (ns.map D.str)) (h.says0 rfl) rfl) (by omega) (by show 9 < 10; decide) fun s hs G1 h1 h2 => ⟨saysT_asB ((says_2 (says_var h1) (says_var (h2 8 _ (by decide) rfl)) (fNotIn_tup s Bb)).mono fun d e => ⟨_, e, rfl⟩), fun _ => says_var h1⟩) (r := tupS A) (by rw [eA]; rfl))) (by simp)) (nice_alike two (by decide) (by decide))) ⟨_, _, _, _, _, _, _, rfl⟩
end
end Xa
/-! YF8: ways put together. -/
namespace Xa
open PySem PySem.Spec
open PyProof.Rows L2
section
variable {α : Type} {E : α → α → Prop}
theorem last_app {l1 l2 : List α} (h : l2 ≠ []) : (l1 ++ l2).getLast? = l2.getLast? := by
  rw [List.getLast?_append]
  cases e : l2.getLast? with
  | none => exact absurd (List.getLast?_eq_none_iff.mp e) h
  | some x => rfl
theorem walk_suffix : ∀ {l1 l2 : List α}, Walk E (l1 ++ l2) → Walk E l2
  | [], l2, h => h
  | a :: l1, l2, h => walk_suffix (l1 := l1) (walk_tail h)
theorem walk_app : ∀ {l1 l2 : List α} {b : α}, Walk E l1 → l1.getLast? = some b → Walk E (b :: l2) → Walk E (l1 ++ l2)
  | [], l2, b, _, e, _ => by cases e
  | [c], l2, b, _, e, w => by cases e; exact w
  | c :: d :: l1, l2, b, h, e, w => by
    rw [List.getLast?_cons_cons] at e
    exact ⟨h.1, walk_app (l1 := d :: l1) h.2 e w⟩
/-- a walk without its rounds -/
theorem walk_short : ∀ {l : List α} {a c : α}, Walk E l → l.head? = some a → l.getLast? = some c → ∃ l', Walk E l' ∧ l'.Nodup ∧ l'.head? = some a ∧ l'.getLast? = some c ∧ ∀ x ∈ l', x ∈ l
  | [], a, c, _, h, _ => by cases h
  | [x], a, c, w, h, g => ⟨[x], w, by simp, h, g, fun y hy => hy⟩
  | x :: y :: l, a, c, w, h, g => by
    cases h
    rw [List.getLast?_cons_cons] at g
    obtain ⟨l', w', nd, h', g', sub⟩ := walk_short (l := y :: l) w.2 rfl g
    by_cases hx : x ∈ l'
    · obtain ⟨l1, l2, rfl⟩ := List.append_of_mem hx
      refine ⟨x :: l2, walk_suffix w', (List.nodup_append.mp nd).2.1, rfl, ?_, fun z hz => List.mem_cons_of_mem _ (sub z (List.mem_append_right _ hz))⟩
      rw [last_app (by simp)] at g'
      exact g'
    · cases l' with
      | nil => cases h'
      | cons z l' =>
        cases h'
        exact ⟨x :: y :: l', ⟨w.1, w'⟩, List.nodup_cons.mpr ⟨hx, nd⟩, rfl, by rw [List.getLast?_cons_cons]; exact g', fun t ht => (List.mem_cons.mp ht).elim (fun e => e ▸ List.mem_cons_self) fun ht => List.mem_cons_of_mem _ (sub t ht)⟩
theorem walk_rev (sym : ∀ a b, E a b → E b a) : ∀ {l : List α}, Walk E l → Walk E l.reverse
  | [], _ => trivial
  | [x], _ => trivial
  | x :: y :: l, w => by
    rw [List.reverse_cons]
    exact walk_app (l1 := (y :: l).reverse) (l2 := [x]) (b := y) (walk_rev sym w.2) (by simp) ⟨sym _ _ w.1, trivial⟩
end
section
variable {m : Nat} {sorts ns : List Str} {es : List Sec} {L : D} {a b c : Str} {p q r : List Str}
theorem PathOf.rev (hf : Fits2 ns es) (h : PathOf ns es a b p) : PathOf ns es b a p.reverse :=
  ⟨walk_rev (fun x y z => adj_symm hf z) h.walk, (List.reverse_perm p).nodup_iff.mpr h.nd, fun x hx => h.inN x (List.mem_reverse.mp hx), by rw [List.head?_reverse]; exact h.tl, by rw [List.getLast?_reverse]; exact h.hd⟩
/-- the way from a to c is on those from a to b and from b to c -/
theorem LineOf.between (h : LineOf m sorts ns es L) (h1 : PathOf ns es a b p) (h2 : PathOf ns es b c q) (h3 : PathOf ns es a c r) : ∀ x ∈ r, x ∈ p ∨ x ∈ q := by
  cases q with
  | nil => cases h2.hd
  | cons b' q =>
    have eb : b' = b := by have := h2.hd; simpa using this
    subst eb
    have w := walk_app h1.walk h1.tl h2.walk
    have hd : (p ++ q).head? = some a := by
      cases p with
      | nil => cases h1.hd
      | cons x p => exact h1.hd
    have tl : (p ++ q).getLast? = some c := by
      cases q with
      | nil =>
        have e : b' = c := by have := h2.tl; simpa using this
        rw [List.append_nil, ← e]
        exact h1.tl
      | cons y q =>
        rw [last_app (by simp)]
        have := h2.tl
        rw [List.getLast?_cons_cons] at this
        exact this
    obtain ⟨l', w', nd, h', g', sub⟩ := walk_short w hd tl
    have sub2 : ∀ x ∈ l', x ∈ p ∨ x ∈ b' :: q := fun x hx => (List.mem_append.mp (sub x hx)).imp id (List.mem_cons_of_mem _)
    have e := h.path_eq h3 ⟨w', nd, fun x hx => (sub2 x hx).elim (h1.inN x) (h2.inN x), h', g'⟩
    subst e
    exact sub2
end
end Xa
/-! YF9: least_part. -/
namespace Xa
open PySem PySem.Spec
open PyProof.Rows L2
noncomputable def leastB (Lk St Pa : FD) : DS := (sThen (sSet 2 (dCall St (dCons (dCall Lk (dCons (d2 fIdx (dVar 0) (dC (.int 0))) (dCons (d2 fIdx (dVar 0) (dC (.int 1))) dNil))) (dCons (d2 fIdx (dVar 1) (dC (.int 0))) dNil))))
  (sThen (sSet 3 (fun _ B => some (.dic [], B)))
  (sThen (sFor (dItems (dVar 1)) (tgName 4) (sFor (dItems (dCall Pa (dCons (dVar 2) (dCons (dVar 4) dNil)))) (tgName 5) (sDicPut 3 (dVar 5) (dC (.bl true)))))
  (sRet (d1 fTuple (d1 fSortedD (dOwn 3)))))))
section
variable {m : Nat} {sorts ns : List Str} {es : List Sec} {L st : D} {e : Str} {l : List Str} {wy : Str → List Str} {R : D → Prop}
abbrev stL (L st : D) (V : D) (sn : List Str) (y4 y5 : Option D) : Gam := [some L, some st, some V, some (.dic (seenK sn)), y4, y5]
theorem does_puts {f : DE} {V : D} {sn ch : List Str} {y4 y5 : Option D} (hf : Says f (stL L st V sn y4 y5) (· = .lst (ch.map D.str))) (nd : sn.Nodup) (sub : ∀ v ∈ sn, v ∈ ns) (cs : ∀ v ∈ ch, v ∈ ns) (hn : ns.length ≤ 900) :
    Does (sFor (dItems f) (tgName 5) (sDicPut 3 (dVar 5) (dC (.bl true)))) (stL L st V sn y4 y5) (fun G => ∃ y5, G = stL L st V (ch.foldl put1 sn) y4 y5) R := by
  let In2 : Nat → Gam → Prop := fun k G => ∃ y5, G = stL L st V ((ch.take k).foldl put1 sn) y4 y5
  refine does_for (ds := ch.map D.str) (Inv := In2) (saysL_items (d := .lst (ch.map D.str)) hf rfl) ⟨y5, rfl⟩ ?_ ?_
  · rintro k d G hd ⟨z5, rfl⟩
    rw [List.getElem?_map] at hd
    cases hv : ch[k]? with
    | none => rw [hv] at hd; cases hd
    | some v =>
      rw [hv] at hd; cases hd
      have e1 : (ch.take (k + 1)).foldl put1 sn = put1 ((ch.take k).foldl put1 sn) v := by rw [List.take_add_one, hv, List.foldl_append]; rfl
      have l1 := nd_len (puts_nd (ch.take k) sn nd) fun z hz => ((puts_mem _ _ z).mp hz).elim (sub z) fun z' => cs z (List.mem_of_mem_take z')
      refine ⟨stL L st V ((ch.take k).foldl put1 sn) y4 (some (.str v)), rfl, does_dicPut (k := .str v) (v := .bl true) rfl says_c (says_var rfl) (seen_ok _ _) (by unfold seenK; rw [List.length_map]; omega) ⟨some (.str v), ?_⟩⟩
      rw [seen_put, e1]; rfl
  · rintro G ⟨z5, rfl⟩
    rw [List.length_map, List.take_length]; exact ⟨z5, rfl⟩
theorem tells_least (h : LineOf m sorts ns es L) (hm : m ≤ 24) (he : e ∈ ns) (hl : ∀ s ∈ l, s ∈ ns) (ne : l ≠ []) (it : items st = some (l.map D.str)) (i0 : fIdx st (.int 0) = some (.str e)) (hw : ∀ s ∈ ns, PathOf ns es e s (e :: wy s)) :
    Tells (runD 6 (leastB linksF stepsF pathF)) [L, st] (· = tupS (uniqS (e :: (l.map wy).flatten))) := by
  have nl : ns.length = m := h.nms.len
  have el := h.el hm
  refine tells_run ?_
  have s0 : startG 6 [L, st] = [some L, some st, none, none, none, none] := rfl
  rw [s0]
  unfold leastB
  refine does_then (Pm := fun G => ∃ vis, G = [some L, some st, some (.dic (visK vis)), none, none, none] ∧ VisOk es e vis ∧ ∀ s, s ∈ keysOf vis ↔ s ∈ ns) (does_set (P := fun d => ∃ vis, d = .dic (visK vis) ∧ VisOk es e vis ∧ ∀ s, s ∈ keysOf vis ↔ s ∈ ns) (says_call2 (says_call2 (h.says0 rfl) (h.says1 rfl) (tells_links h.nms.nd h.fits (by omega) (by omega))) (says_2 (says_var (d := st) rfl) says_c i0) (tells_steps h he (by omega))) fun d ⟨vis, ed, ok, all⟩ => ⟨vis, by subst ed; rfl, ok, all⟩) fun G ⟨vis, eg, ok, all⟩ => ?_
  subst eg
  refine does_then (Pm := (· = stL L st (.dic (visK vis)) [] none none)) (does_set (P := (· = .dic [])) (fun B g => ⟨_, B, rfl, g, rfl⟩) fun d ed => by subst ed; rfl) fun G eg => ?_
  subst eg
  let Good : List Str → List Str → Prop := fun l0 sn => sn.Nodup ∧ (∀ v ∈ sn, v ∈ ns) ∧ ∀ v, v ∈ sn ↔ ∃ s ∈ l0, v ∈ e :: wy s
  let Inv : Nat → Gam → Prop := fun i G => ∃ sn y4 y5, G = stL L st (.dic (visK vis)) sn y4 y5 ∧ Good (l.take i) sn
  refine does_then (Pm := Inv l.length) (does_for (ds := l.map D.str) (Inv := Inv) (saysL_items (d := st) (says_var rfl) it) ⟨[], none, none, rfl, .nil, by simp, by simp⟩ ?_ fun G q => by rw [List.length_map] at q; exact q) fun G ⟨sn, y4, y5, eg, nd, sub, iff⟩ => ?_
  · rintro i d G hd ⟨sn, y4, y5, rfl, nd, sub, iff⟩
    rw [List.getElem?_map] at hd
    cases hx : l[i]? with
    | none => rw [hx] at hd; cases hd
    | some s =>
      rw [hx] at hd; cases hd
      have hs : s ∈ ns := hl s (List.mem_of_getElem? hx)
      have tk : l.take (i + 1) = l.take i ++ [s] := by rw [List.take_add_one, hx]; rfl
      obtain ⟨ch, ld, wk, cn, cl⟩ := ok.lead s ((all s).mpr hs)
      obtain ⟨r, er⟩ := ld.head
      have cin : ∀ v ∈ ch, v ∈ ns := fun v hv => (all v).mp (ld.keys v hv)
      have pc : PathOf ns es s e ch := ⟨wk, cn, cin, by rw [er]; rfl, cl⟩
      have same : ch.reverse = e :: wy s := h.path_eq (pc.rev h.fits) (hw s hs)
      have mem : ∀ v, v ∈ ch ↔ v ∈ e :: wy s := fun v => by rw [← same, List.mem_reverse]
      have cl9 : ch.length ≤ 900 := Nat.le_trans (nd_len cn cin) (by omega)
      refine ⟨stL L st (.dic (visK vis)) sn (some (.str s)) y5, rfl, (does_puts (ns := ns) (ch := ch) (says_call2 (says_var (d := .dic (visK vis)) rfl) (says_var (d := .str s) rfl) (tells_path ok.nd ld cl9)) nd sub cin (by omega)).mono (fun G ⟨z5, eg⟩ => ⟨ch.foldl put1 sn, some (.str s), z5, eg, puts_nd _ _ nd, fun v hv => ((puts_mem _ _ v).mp hv).elim (sub v) (cin v), fun v => ?_⟩) fun d z => z⟩
      rw [puts_mem, iff, mem, tk]
      simp only [List.mem_append, List.mem_singleton]
      exact ⟨fun z => z.elim (fun ⟨t, ht, q⟩ => ⟨t, .inl ht, q⟩) fun q => ⟨s, .inr rfl, q⟩, fun ⟨t, ht, q⟩ => ht.elim (fun ht => .inl ⟨t, ht, q⟩) fun et => .inr (et ▸ q)⟩
  · subst eg
    rw [List.take_length] at iff
    have snl := nd_len nd sub
    have ek : (seenK sn).map (·.1) = sn.map D.str := by unfold seenK; rw [List.map_map]; rfl
    have eu : uniqS (e :: (l.map wy).flatten) = sortS sn := uniq_eq nd fun z => by
      rw [iff]
      simp only [List.mem_cons, List.mem_flatten, List.mem_map]
      constructor
      · rintro (z1 | ⟨_, ⟨s, hs, rfl⟩, z2⟩)
        · obtain ⟨s, hs⟩ := List.exists_mem_of_ne_nil l ne
          exact ⟨s, hs, .inl z1⟩
        · exact ⟨s, hs, .inr z2⟩
      · rintro ⟨s, hs, z1 | z2⟩
        · exact .inl z1
        · exact .inr ⟨_, ⟨s, hs, rfl⟩, z2⟩
    rw [eu]
    exact does_ret (says_1 (says_1 (says_ownD rfl) (fSortedD_strs ek (fun w hw => h.layN w (sub w hw)) (by omega))) rfl)
/-- from another station of the list: the same -/
theorem LineOf.hull (h : LineOf m sorts ns es L) {e' : Str} {wy' : Str → List Str} (hl : ∀ s ∈ l, s ∈ ns) (he : e ∈ l) (he' : e' ∈ l) (hw : ∀ s ∈ ns, PathOf ns es e s (e :: wy s)) (hw' : ∀ s ∈ ns, PathOf ns es e' s (e' :: wy' s)) : uniqS (e' :: (l.map wy').flatten) = uniqS (e :: (l.map wy).flatten) := by
  have half : ∀ {a b : Str} {va vb : Str → List Str}, a ∈ l → b ∈ l → (∀ s ∈ ns, PathOf ns es a s (a :: va s)) → (∀ s ∈ ns, PathOf ns es b s (b :: vb s)) → ∀ z, z ∈ a :: (l.map va).flatten → z ∈ b :: (l.map vb).flatten := fun {a b va vb} ha hb pa pb z hz => by
    have inl : ∀ {s}, s ∈ l → ∀ x ∈ b :: vb s, x ∈ b :: (l.map vb).flatten := fun {s} hs x hx => (List.mem_cons.mp hx).elim (fun q => q ▸ List.mem_cons_self) fun hx => List.mem_cons_of_mem _ (List.mem_flatten.mpr ⟨_, List.mem_map_of_mem hs, hx⟩)
    obtain ⟨s, hs, zs⟩ : ∃ s ∈ l, z ∈ a :: va s := by
      rcases List.mem_cons.mp hz with q | q
      · exact ⟨a, ha, q ▸ List.mem_cons_self⟩
      · obtain ⟨_, h1, h2⟩ := List.mem_flatten.mp q
        obtain ⟨s, hs, rfl⟩ := List.mem_map.mp h1
        exact ⟨s, hs, List.mem_cons_of_mem _ h2⟩
    rcases h.between ((pb a (hl a ha)).rev h.fits) (pb s (hl s hs)) (pa s (hl s hs)) z zs with q | q
    · exact inl ha z (List.mem_reverse.mp q)
    · exact inl hs z q
  unfold uniqS
  refine sortS_mem (fold_nd _ [] .nil) (fold_nd _ [] .nil) fun z => ?_
  rw [fold_mem, fold_mem]
  exact ⟨fun q => q.imp id (half he' he hw' hw z), fun q => q.imp id (half he he' hw hw' z)⟩
end
end Xa
/-! YG1: _law_grown. -/
namespace Xa
open PySem PySem.Spec
open PyProof.Rows L2
noncomputable abbrev flatF : FD := runD 3 flatB
noncomputable def grownB (So Fl : FD) : DS := (sThen (sSet 3 (dOp semLst (dCons (dCall So (dCons (dVar 0) (dCons (d1 fListD (dVar 1)) dNil))) dNil)))
  (sThen (sFor (dRange1 (d2 (fI gSub2) (dVar 2) (dC (.int 1)))) (tgName 4) (sThen (sSet 5 (dCall Fl (dCons (dComp (dItems (dOwn 3)) [7] (tgName 7) dYes (d2 fIdx (dVar 1) (dVar 7))) dNil)))
  (sThen (sSet 6 (dComp (dItems (dVar 5)) [7] (tgName 7) (asB (d2 fNotIn (dVar 7) (dOwn 3))) (dVar 7)))
  (sIf (asB (d2 fNe (dVar 6) (dOp semLst dNil))) (sMt 3 mAppend (dCons (dCall So (dCons (dVar 0) (dCons (dVar 6) dNil))) dNil)) sSkip))))
  (sRet (d1 fTuple (d1 fSorted (dOwn 3))))))
section
variable {m : Nat} {sorts ns : List Str} {es : List Sec} {L : D} {k : Nat}
theorem fNe_nil {ds : List D} {k n : Nat} (h : Nice k n (.lst ds)) (hk : k ≤ 64) : fNe (.lst ds) (.lst []) = some (.bl (decide (ds ≠ []))) := by
  unfold fNe
  rw [fEq_nil h hk, Option.bind_some]
  by_cases e : ds = [] <;> simp [e]
theorem LineOf.nL (h : LineOf m sorts ns es L) {l : List Str} {c : Nat} (hl : ∀ w ∈ l, w ∈ ns) (hc : l.length ≤ c) : Nice 1 (13 * c) (.lst (l.map D.str)) :=
  nice_lst (k := 0) (n := 12) (c := c) (fun d hd => by
    obtain ⟨w, hw, rfl⟩ := List.mem_map.mp hd
    exact h.nN (hl w hw)) (by rw [List.length_map]; exact hc)
theorem tells_grown (h : LineOf m sorts ns es L) (h0 : 0 < m) (hm : m ≤ 24) (k1 : 1 ≤ k) (k2 : k ≤ 24) :
    Tells (runD 8 (grownB someF flatF)) [.non, .dic (nearK ns (nbL es)), .int (k : Nat)] (fun d => ∃ q : List Str, d = .tup (q.map D.str) ∧ ∀ w ∈ q, w ∈ ns) := by
  have nl : ns.length = m := h.nms.len
  have el := h.el hm
  refine tells_run ?_
  generalize hN : (.dic (nearK ns (nbL es)) : D) = N
  have s0 : startG 8 [.non, N, .int (k : Nat)] = [some .non, some N, some (.int (k : Nat)), none, none, none, none, none] := rfl
  rw [s0]
  unfold grownB
  have nn : ns.map D.str ≠ [] := fun e => by
    have := congrArg List.length e
    rw [List.length_map] at this
    simp at this
    rw [this] at nl
    simp at nl
    omega
  have lst : Says (d1 fListD (dVar 1)) [some .non, some N, some (.int (k : Nat)), none, none, none, none, none] (· = .lst (ns.map D.str)) := says_1 (says_var rfl) (by
    rw [← hN]
    show some (D.lst ((nearK ns (nbL es)).map (·.1))) = _
    unfold nearK
    rw [List.map_map]; rfl)
  let stg : List Str → Option D → Option D → Option D → Gam := fun q y4 y5 y6 => [some .non, some N, some (.int (k : Nat)), some (.lst (q.map D.str)), y4, y5, y6, none]
  let Good : Nat → List Str → Prop := fun i q => (∀ w ∈ q, w ∈ ns) ∧ q.length ≤ i + 1
  refine does_then (Pm := fun G => ∃ w ∈ ns, G = stg [w] none none none) (does_set (P := fun d => ∃ w ∈ ns, d = .lst [.str w]) (says_op (PL := fun ds => ∃ w ∈ ns, ds = [.str w]) (saysL_cons (P1 := fun d => d ∈ ns.map D.str) (PL := (· = [])) (says_call2 (says_var (d := .non) rfl) lst (tells_someL draws_take nn (by rw [List.length_map]; omega))) saysL_nil fun d ds hd e => by
    obtain ⟨w, hw, rfl⟩ := List.mem_map.mp hd
    exact ⟨w, hw, by rw [e]⟩) fun ds ⟨w, hw, e⟩ => by subst e; exact ⟨_, semLst_ok (by simp), w, hw, rfl⟩) fun d ⟨w, hw, e⟩ => ⟨w, hw, by subst e; rfl⟩) fun G ⟨w0, hw0, eg⟩ => ?_
  subst eg
  let Inv : Nat → Gam → Prop := fun i G => ∃ q y4 y5 y6, G = stg q y4 y5 y6 ∧ Good i q
  have rl : (rangeD 0 ((k : Int) - 1)).length ≤ 23 := by rw [rangeD_len]; omega
  refine does_then (Pm := fun G => ∃ q y4 y5 y6, G = stg q y4 y5 y6 ∧ Good 23 q) (does_for (ds := rangeD 0 ((k : Int) - 1)) (Inv := Inv) (saysL_range1 (Q := (· = (k : Int) - 1)) ((says_2 (says_var (d := .int (k : Nat)) rfl) says_c rfl).mono fun d e => ⟨_, e, rfl⟩) fun i ei => by subst ei; exact ⟨by omega, rfl⟩) ⟨[w0], none, none, none, rfl, fun w hw => (List.mem_singleton.mp hw) ▸ hw0, by simp⟩ ?_ ?_) fun G ⟨q, y4, y5, y6, eg, sub, len⟩ => ?_
  · rintro i d G hd ⟨q, y4, y5, y6, rfl, sub, len⟩
    have hi : i < 23 := Nat.lt_of_lt_of_le (List.getElem?_eq_some_iff.mp hd).1 rl
    refine ⟨stg q (some d) y5 y6, rfl, ?_⟩
    generalize hmo : (q.map (nbL es)).flatten = mo
    have mem : ∀ w ∈ mo, w ∈ ns := fun w hw => by
      rw [← hmo] at hw
      obtain ⟨_, h1, h2⟩ := List.mem_flatten.mp hw
      obtain ⟨u, hu, rfl⟩ := List.mem_map.mp h1
      obtain ⟨x, hx, j⟩ := (adj_iff h.fits).mp h2
      exact j.elim (fun z => z.2 ▸ (h.fits x hx).2.1) fun z => z.1 ▸ (h.fits x hx).1
    have efl : ((q.map fun w => (nbL es w).map D.str)).flatten = mo.map D.str := by rw [← hmo, List.map_flatten, List.map_map]; rfl
    have ml : mo.length ≤ 600 := by
      have := flat_len (q.map fun w => (nbL es w).map D.str) 24 fun l hl => by
        obtain ⟨w, _, rfl⟩ := List.mem_map.mp hl
        rw [List.length_map]
        exact Nat.le_trans (nb_len es w) el
      rw [efl, List.length_map, List.length_map] at this
      have l2 : q.length * 24 ≤ 24 * 24 := Nat.mul_le_mul_right 24 (by omega)
      omega
    refine does_then (Pm := (· = stg q (some d) (some (.lst (mo.map D.str))) y6)) (does_set (P := (· = .lst (mo.map D.str))) (says_call1 (a := .lst ((q.map fun w => (nbL es w).map D.str).map D.lst)) ((says_mapped (l := q) (g := D.str) (o := fun w => .lst ((nbL es w).map D.str)) (saysL_items (d := .lst (q.map D.str)) (says_own rfl) rfl) (by omega) (by show 7 < 8; decide) fun w hw G1 h1 h2 => says_2 (says_var (h2 1 _ (by decide) rfl)) (says_var h1) (by rw [← hN]; exact fIdx_near (sub w hw))).mono fun d e => by rw [e, List.map_map]; rfl) (by rw [← efl]; exact tells_flat (by rw [efl, List.length_map]; omega))) fun d e => by subst e; rfl) fun G e => ?_
    subst e
    refine does_then (Pm := (· = stg q (some d) (some (.lst (mo.map D.str))) (some (.lst ((mo.filter fun w => decide (w ∉ q)).map D.str))))) (does_set (P := (· = .lst ((mo.filter fun w => decide (w ∉ q)).map D.str))) (says_filt (l := mo) (g := D.str) (o := D.str) (keep := fun w => decide (w ∉ q)) (saysL_items (d := .lst (mo.map D.str)) (says_var rfl) rfl) (by omega) (by show 7 < 8; decide) fun w hw G1 h1 h2 => ⟨saysT_asB ((says_2 (says_var h1) (says_own (h2 3 _ (by decide) rfl)) (fNotIn_lst w q)).mono fun d e => ⟨_, e, rfl⟩), fun _ => says_var h1⟩) fun d e => by subst e; rfl) fun G e => ?_
    subst e
    generalize hfr : (mo.filter fun w => decide (w ∉ q)) = fr
    have frn : ∀ w ∈ fr, w ∈ ns := fun w hw => by rw [← hfr] at hw; exact mem w (List.mem_filter.mp hw).1
    have frl : fr.length ≤ 600 := by rw [← hfr]; exact Nat.le_trans (List.length_filter_le _ _) ml
    refine does_if (PT := fun c => c = decide (fr.map D.str ≠ [])) (saysT_asB ((says_2 (says_var (d := .lst (fr.map D.str)) rfl) (says_lst saysL_nil (by simp)) (fNe_nil (h.nL frn frl) (by decide))).mono fun d e => ⟨_, e, rfl⟩)) (fun hc => ?_) fun _ => does_skip ⟨q, _, _, _, rfl, sub, by omega⟩
    have hc := of_decide_eq_true hc.symm
    refine does_mt draws_take (ds := q.map D.str) rfl (PL := fun ds => ∃ w ∈ fr, ds = [.str w]) (saysL_cons (P1 := fun d => d ∈ fr.map D.str) (PL := (· = [])) (says_call2 (says_var (d := .non) rfl) (says_var (d := .lst (fr.map D.str)) rfl) (tells_someL draws_take hc (by rw [List.length_map]; omega))) saysL_nil fun d ds hd e => by
      obtain ⟨w, hw, rfl⟩ := List.mem_map.mp hd
      exact ⟨w, hw, by rw [e]⟩) fun es' ⟨w, hw, ee⟩ => ?_
    subst ee
    refine ⟨_, _, app_ok (by rw [List.length_map]; omega), q ++ [w], some d, some (.lst (mo.map D.str)), some (.lst (fr.map D.str)), ?_, fun v hv => ?_, by rw [List.length_append]; simp only [List.length_cons, List.length_nil]; omega⟩
    · have e2 : (q ++ [w]).map D.str = q.map D.str ++ [D.str w] := by simp
      show [some D.non, some N, some (D.int (k : Nat)), some (D.lst (q.map D.str ++ [D.str w])), _, _, _, _] = [some D.non, some N, some (D.int (k : Nat)), some (D.lst ((q ++ [w]).map D.str)), _, _, _, _]
      rw [e2]
    · exact (List.mem_append.mp hv).elim (sub v) fun z => (List.mem_singleton.mp z) ▸ frn w hw
  · rintro G ⟨q, y4, y5, y6, rfl, sub, len⟩
    exact ⟨q, y4, y5, y6, rfl, sub, by omega⟩
  · subst eg
    refine does_ret ((says_1 (says_1 (says_own rfl) (fSorted_strs (fun w hw => h.layN w (sub w hw)) (by omega))) (r := .tup ((sortS q).map D.str)) rfl).mono fun d e => ⟨sortS q, e, fun w hw => sub w ((sortS_perm q).mem_iff.mp hw)⟩)
end
end Xa
/-! YG2: what k05's law draws. -/
namespace Xa
open PySem PySem.Spec
open PyProof.Rows L2
section
variable {α : Type} {src : DA} {j : Nat} {u : DT} {f : DE} {G : Gam} {g o : α → D}
/-- a test that is drawn: some of the things, in their order -/
theorem compGo_sub {tgt : TgD} {G0 : Gam} : ∀ {l : List α}, (∀ x ∈ l, ∃ G1, tgt G0 (g x) = some G1 ∧ SaysT u G1 (fun _ => True) ∧ Says f G1 (· = o x)) → ∀ B, GoodB B → ∃ (l' : List α) (B' : Bag), l'.Sublist l ∧ compGo tgt u f G0 (l.map g) B = some (l'.map o, B') ∧ GoodB B'
  | [], _, B, gb => ⟨[], B, .slnil, rfl, gb⟩
  | x :: r, h, B, gb => by
    obtain ⟨G1, e1, h2, h3⟩ := h x List.mem_cons_self
    obtain ⟨c, B1, e2, g1, _⟩ := h2 B gb
    have hr : ∀ y ∈ r, _ := fun y hy => h y (List.mem_cons_of_mem _ hy)
    rw [List.map_cons]
    unfold compGo
    rw [e1, Option.bind_some, e2, Option.bind_some]
    cases c with
    | true =>
      obtain ⟨y, B2, e3, g2, rfl⟩ := h3 B1 g1
      obtain ⟨l', B3, sl, e4, g3⟩ := compGo_sub hr B2 g2
      refine ⟨x :: l', B3, sl.cons₂ x, ?_, g3⟩
      simp only [if_true]
      rw [e3, Option.bind_some]
      simp only
      rw [e4]; rfl
    | false =>
      obtain ⟨l', B3, sl, e4, g3⟩ := compGo_sub hr B1 g1
      refine ⟨l', B3, sl.cons x, ?_, g3⟩
      simp only [Bool.false_eq_true, if_false]; exact e4
theorem says_some {l : List α} (h : SaysL src G (· = l.map g)) (hl : l.length ≤ 1000) (hj : j < G.length)
    (step : ∀ x ∈ l, ∀ G1, gat G1 j = some (g x) → (∀ i d, i ≠ j → gat G i = some d → gat G1 i = some d) → SaysT u G1 (fun _ => True) ∧ Says f G1 (· = o x)) : Says (dComp src [j] (tgName j) u f) G (fun d => ∃ l' : List α, l'.Sublist l ∧ d = .lst (l'.map o)) := fun B gb => by
  obtain ⟨ds, B1, e1, g1, rfl⟩ := h B gb
  obtain ⟨l', B2, sl, e2, g2⟩ := compGo_sub (u := u) (f := f) (g := g) (o := o) (l := l) (tgt := tgName j) (G0 := wipeG G [j]) (fun x hx => ⟨_, rfl, step x hx _ (gat_set (by show j < (G.set j none).length; rw [List.length_set]; exact hj)) fun i d hi e => gat_w (k := 0) e hi _ _⟩) B1 g1
  refine ⟨_, B2, ?_, g2, l', sl, rfl⟩
  unfold dComp
  rw [e1, Option.bind_some]
  simp only
  rw [if_pos (line1000 (by rw [List.length_map]; omega)), e2]; rfl
end
noncomputable abbrev grownF : FD := runD 8 (grownB someF flatF)
section
variable {m : Nat} {sorts ns : List Str} {es : List Sec} {L : D} {G : Gam}
theorem says_lenL {i : Nat} (h : LineOf m sorts ns es L) (g : gat G i = some L) : Says (d1 fLen (d2 fIdx (dVar i) (dC (.int 0)))) G (IsI (· = (m : Int))) := (says_1 (h.says0 g) (r := .int (m : Nat)) (by
  show some (D.int ((ns.map D.str).length : Nat)) = _
  rw [List.length_map, h.nms.len])).mono fun d e => ⟨_, e, rfl⟩
/-- _law_part -/
theorem says_part (h : LineOf m sorts ns es L) (h0 : 0 < m) (hm : m ≤ 24) (g1 : gat G 1 = some .non) (g3 : gat G 3 = some L) (g4 : gat G 4 = some (.dic (nearK ns (nbL es)))) :
    Says (dCall grownF (dCons (dVar 1) (dCons (dVar 4) (dCons (d2 fAdd (dC (.int 1)) (dCall takeF (dCons (dVar 1) (dCons (d1 fLen (d2 fIdx (dVar 3) (dC (.int 0)))) dNil)))) dNil)))) G (fun d => ∃ q : List Str, d = .tup (q.map D.str) ∧ ∀ w ∈ q, w ∈ ns) := by
  have third : Says (d2 fAdd (dC (.int 1)) (dCall takeF (dCons (dVar 1) (dCons (d1 fLen (d2 fIdx (dVar 3) (dC (.int 0)))) dNil)))) G (IsI fun r => 1 ≤ r ∧ r ≤ 24) :=
    says_addI (Q1 := (· = 1)) (says_i rfl) (says_draw draws_take (m := (m : Int)) g1 (says_lenL h g3) (by omega) (by omega)) fun i j a b => ⟨by omega, by omega⟩
  refine says_call (PL := fun ds => ∃ k : Nat, ds = [.non, .dic (nearK ns (nbL es)), .int (k : Nat)] ∧ 1 ≤ k ∧ k ≤ 24) (saysL_cons (P1 := (· = .non)) (PL := fun ds => ∃ k : Nat, ds = [.dic (nearK ns (nbL es)), .int (k : Nat)] ∧ 1 ≤ k ∧ k ≤ 24) (says_var g1) (saysL_cons (P1 := (· = .dic (nearK ns (nbL es)))) (PL := fun ds => ∃ k : Nat, ds = [.int (k : Nat)] ∧ 1 ≤ k ∧ k ≤ 24) (says_var g4) (saysL_cons (PL := (· = [])) third saysL_nil fun d ds ⟨i, e, a, b⟩ e2 => ⟨i.toNat, by rw [e, e2, Int.toNat_of_nonneg (by omega)], by omega, by omega⟩) fun d ds e ⟨k, e2, a⟩ => ⟨k, by rw [e, e2], a⟩) fun d ds e ⟨k, e2, a⟩ => ⟨k, by rw [e, e2], a⟩) fun ds ⟨k, e, a, b⟩ => by subst e; exact tells_grown h h0 hm a b
/-- _law_lot -/
theorem says_lot (h : LineOf m sorts ns es L) (hm : m ≤ 24) (g1 : gat G 1 = some .non) (g3 : gat G 3 = some L) (hl : 17 < G.length) :
    Says (d1 fTuple (dComp (dItems (d2 fIdx (dVar 3) (dC (.int 1)))) [17] (tgName 17) (asB (d2 fEq (dCall takeF (dCons (dVar 1) (dCons (dC (.int 3)) dNil))) (dC (.int 0)))) (dCut (dVar 17) pNo (pAt (dC (.int 2)))))) G (fun d => ∃ lt : List Sec, lt.Sublist es ∧ d = .tup (lt.map Sec.key)) :=
  says_d1 (says_some (l := es) (g := Sec.d) (o := Sec.key) (saysL_items (h.says1 g3) rfl) (Nat.le_trans (h.el hm) (by decide)) hl fun x hx G1 h1 h2 => ⟨saysT_asB (says_d2 (P2 := (· = .int 0)) (says_draw draws_take (m := 3) (h2 1 _ (by decide) g1) (says_i rfl) (by decide) (by decide)) says_c fun d e ⟨i, e1, _⟩ e2 => by subst e1 e2; exact ⟨_, rfl, _, rfl, trivial⟩), says_cut2 h1⟩) fun d ⟨lt, sl, e⟩ => by subst e; exact ⟨_, rfl, lt, sl, rfl⟩
end
end Xa
/-! YG3: the drawn stations; the due of least_part. -/
namespace Xa
open PySem PySem.Spec
open PyProof.Rows L2
theorem paired_all {α β : Type} {Q : β → Prop} : ∀ {ds : List α} {ws : List β}, Paired (fun _ w => Q w) ds ws → ws.length = ds.length ∧ ∀ w ∈ ws, Q w
  | _, _, .nil => ⟨rfl, fun w z => nomatch z⟩
  | _, _, .cons h t => by
    obtain ⟨a, b⟩ := paired_all t
    exact ⟨by simp [a], fun w hw => (List.mem_cons.mp hw).elim (fun e => e ▸ h) (b w)⟩
noncomputable abbrev leastF : FD := runD 6 (leastB linksF stepsF pathF)
section
variable {m : Nat} {sorts ns : List Str} {es : List Sec} {L : D} {G : Gam} {l : List Str} {e : Str} {wy : Str → List Str}
/-- some stations of the line, one to n -/
structure Picked (ns : List Str) (n : Nat) (l : List Str) : Prop where
  ne : l ≠ []
  sub : ∀ w ∈ l, w ∈ ns
  len : l.length ≤ n
theorem says_picked (h : LineOf m sorts ns es L) (h0 : 0 < m) (hm : m ≤ 24) (g1 : gat G 1 = some .non) (g3 : gat G 3 = some L) (hl : 15 < G.length) :
    Says (dComp (dRange1 (d2 fAdd (dC (.int 1)) (dCall takeF (dCons (dVar 1) (dCons (dC (.int 4)) dNil))))) [15] (tgName 15) dYes (dCall someF (dCons (dVar 1) (dCons (d1 fList (d2 fIdx (dVar 3) (dC (.int 0)))) dNil)))) G (fun d => ∃ l : List Str, d = .lst (l.map D.str) ∧ Picked ns 4 l) := by
  have nl : ns.length = m := h.nms.len
  have nn : ns.map D.str ≠ [] := fun e => by
    have := congrArg List.length e
    rw [List.length_map, nl] at this
    simp at this
    omega
  refine (says_comp0 (PS := fun ds => ∃ r : Int, (1 ≤ r ∧ r ≤ 4) ∧ ds = rangeD 0 r) (fun _ e => ∃ w, e = D.str w ∧ w ∈ ns) (saysL_range1 (Q := fun r => 1 ≤ r ∧ r ≤ 4) (says_addI (Q1 := (· = 1)) (says_i rfl) (says_draw draws_take (m := 4) g1 (says_i rfl) (by decide) (by decide)) fun i j a b => ⟨by omega, by omega⟩) fun i a => ⟨by omega, i, a, rfl⟩) (fun ds ⟨r, a, e⟩ => by subst e; rw [rangeD_len]; exact line1000 (by omega)) fun ds ⟨r, a, e⟩ d hd => ⟨_, rfl, (says_call2 (says_var (gat_w (i := 15) (k := 0) g1 (by decide) _ _)) (says_1 (h.says0 (gat_w (i := 15) (k := 0) g3 (by decide) _ _)) (r := .lst (ns.map D.str)) rfl) (tells_someL draws_take nn (by rw [List.length_map]; omega))).mono fun d hd => by
    obtain ⟨w, hw, e⟩ := List.mem_map.mp hd
    exact ⟨w, e.symm, hw⟩⟩).mono fun d ⟨ds, es', ⟨r, a, e1⟩, e2, p⟩ => ?_
  obtain ⟨ws, e3, p2⟩ := strs_of2 (Rl := fun _ w => w ∈ ns) p
  obtain ⟨l1, l2⟩ := paired_all p2
  rw [e1, rangeD_len] at l1
  exact ⟨ws, by rw [e2, e3], fun z => by rw [z] at l1; simp at l1; omega, l2, by omega⟩
theorem says_more {i : Nat} (g1 : gat G 1 = some .non) (g8 : gat G i = some (.lst (l.map D.str))) (pk : Picked ns 4 l) :
    Says (d2 fCatL (dVar i) (dCut (dVar i) pNo (pAt (dCall takeF (dCons (dVar 1) (dCons (dC (.int 2)) dNil)))))) G (fun d => ∃ l : List Str, d = .lst (l.map D.str) ∧ Picked ns 8 l) := by
  have cut : Says (dCut (dVar i) pNo (pAt (dCall takeF (dCons (dVar 1) (dCons (dC (.int 2)) dNil))))) G (fun d => ∃ l' : List Str, d = .lst (l'.map D.str) ∧ (∀ w ∈ l', w ∈ ns) ∧ l'.length ≤ 4) := fun B gb => by
    obtain ⟨d, B1, e1, gb1, r, e2, _⟩ := says_draw draws_take (m := 2) g1 (says_i rfl) (by decide) (by decide) B gb
    subst e2
    obtain ⟨l', e⟩ := all_strs (l := cutD (l.map D.str) none (some r)) fun x hx => by
      obtain ⟨w, _, e⟩ := List.mem_map.mp (mem_cut hx)
      exact ⟨w, e.symm⟩
    refine ⟨.lst (l'.map D.str), B1, ?_, gb1, l', rfl, fun w hw => ?_, ?_⟩
    · have e0 : dVar i G B = some (.lst (l.map D.str), B) := by unfold dVar; rw [g8]; rfl
      unfold dCut pNo pAt
      rw [e0]
      simp only [Option.bind_some]
      rw [e1]
      simp only [Option.bind_some]
      show Option.map _ (some (D.lst (cutD (l.map D.str) none (some r)))) = _
      rw [e]; rfl
    · have h1 : D.str w ∈ cutD (l.map D.str) none (some r) := by rw [e]; exact List.mem_map_of_mem hw
      obtain ⟨w', h2, e2⟩ := List.mem_map.mp (mem_cut h1)
      rw [← D.str.inj e2]; exact pk.sub w' h2
    · have h1 := congrArg List.length e
      rw [List.length_map] at h1
      have h2 : (cutD (l.map D.str) none (some r)).length ≤ (l.map D.str).length := len_cut
      rw [List.length_map] at h2
      have := pk.len
      omega
  refine says_d2 (P1 := (· = .lst (l.map D.str))) (says_var g8) cut fun d d' e ⟨l', e', s', n'⟩ => ?_
  subst e e'
  have p1 := pk.len
  refine ⟨_, catL_ok (by rw [List.length_map, List.length_map]; omega), l ++ l', by rw [List.map_append], fun z => pk.ne (List.append_eq_nil_iff.mp z).1, fun w hw => (List.mem_append.mp hw).elim (pk.sub w) (s' w), by rw [List.length_append]; omega⟩
end
end Xa
/-! YG4: ways from anywhere; the sections of a lot, counted. -/
namespace Xa
open PySem PySem.Spec
open PyProof.Rows L2
section
variable {m : Nat} {sorts ns : List Str} {es lt : List Sec} {L : D} {a b c : Str} {p q : List Str}
theorem PathOf.join (h1 : PathOf ns es a b p) (h2 : PathOf ns es b c q) : ∃ r, PathOf ns es a c (a :: r) := by
  cases q with
  | nil => cases h2.hd
  | cons b' q =>
    have eb : b' = b := by have := h2.hd; simpa using this
    subst eb
    have w := walk_app h1.walk h1.tl h2.walk
    have hd : (p ++ q).head? = some a := by
      cases p with
      | nil => cases h1.hd
      | cons x p => exact h1.hd
    have tl : (p ++ q).getLast? = some c := by
      cases q with
      | nil =>
        have e : b' = c := by have := h2.tl; simpa using this
        rw [List.append_nil, ← e]
        exact h1.tl
      | cons y q =>
        rw [last_app (by simp)]
        have := h2.tl
        rw [List.getLast?_cons_cons] at this
        exact this
    obtain ⟨l', w', nd, h', g', sub⟩ := walk_short w hd tl
    cases l' with
    | nil => cases h'
    | cons x r =>
      have e : x = a := by simpa using h'
      subst e
      exact ⟨r, w', nd, fun y hy => (List.mem_append.mp (sub y hy)).elim (h1.inN y) fun z => h2.inN y (List.mem_cons_of_mem _ z), rfl, g'⟩
/-- ways from e: ways from each other station -/
theorem LineOf.other (h : LineOf m sorts ns es L) {e e' : Str} {wy : Str → List Str} (he' : e' ∈ ns) (hw : ∀ s ∈ ns, PathOf ns es e s (e :: wy s)) : ∃ wy' : Str → List Str, ∀ s ∈ ns, PathOf ns es e' s (e' :: wy' s) := by
  have each : ∀ s, ∃ r, s ∈ ns → PathOf ns es e' s (e' :: r) := fun s => by
    by_cases hs : s ∈ ns
    · obtain ⟨r, hr⟩ := ((hw e' he').rev h.fits).join (hw s hs)
      exact ⟨r, fun _ => hr⟩
    · exact ⟨[], fun z => absurd z hs⟩
  exact ⟨fun s => Classical.choose (each s), fun s => Classical.choose_spec (each s)⟩
theorem Tree.nd (h : Tree ns es) : es.Nodup := by
  induction h with
  | root r => exact .nil
  | @leaf ns es x u v t hu hv j ih =>
    refine List.nodup_cons.mpr ⟨fun z => ?_, ih⟩
    obtain ⟨f1, f2, _⟩ := t.fits x z
    rcases j with ⟨e1, e2⟩ | ⟨e1, e2⟩
    · exact hu (e1 ▸ f1)
    · exact hu (e2 ▸ f2)
theorem LineOf.lot_count (h : LineOf m sorts ns es L) (h0 : 0 < m) (sl : lt.Sublist es) : (es.filter fun x => !notLot lt x).length = lt.length := by
  obtain ⟨ns', es', t, q1, q2⟩ := h.grown h0
  have nd : es.Nodup := q2.nodup_iff.mp t.nd
  refine List.Perm.length_eq ((List.perm_ext_iff_of_nodup (nd.filter _) (nd.sublist sl)).mpr fun x => ?_)
  rw [List.mem_filter]
  unfold notLot
  rw [Bool.not_not, List.any_eq_true]
  constructor
  · rintro ⟨hx, y, hy, e⟩
    have e := of_decide_eq_true e
    have := h.one (sl.subset hy) hx e.1 e.2
    exact this ▸ hy
  · intro hx
    exact ⟨sl.subset hx, x, hx, by simp⟩
theorem LineOf.lts (h : LineOf m sorts ns es L) : ∀ x ∈ es, sLt x.a x.b = true := fun x hx => by
  obtain ⟨ns0, es0, hb, _, p1, p2⟩ := h.tree
  obtain ⟨i, hi⟩ := List.getElem?_of_mem (p2.mem_iff.mp hx)
  obtain ⟨_, _, _, _, _, _, _, l, _⟩ := hb.join i x hi
  exact l
end
end Xa
/-! XF1: a list so many times. -/
namespace Xa
open PySem PySem.Spec
open PyProof.Rows L2
section
variable {X : Cx} {mu : List Md} {a b : Expr} {f1 f2 : DE} {pos : Pos}
def fRep (x y : D) : Option D := match x, y with
  | .lst s, .int k => if (0 ≤ k ∧ k < 1000000) ∧ s.length * k.toNat ≤ sizeLine then some (.lst (List.replicate k.toNat s).flatten) else none
  | _, _ => none
theorem OwL.rep {K : PySem.W.Frag} {b : Addr} {O : Addr → Prop} {H : Hp} {vs : List V} {ds : List D} (h : OwL K b O H .frz vs ds []) : ∀ n : Nat, OwL K b O H .frz (List.replicate n vs).flatten (List.replicate n ds).flatten []
  | 0 => .nil
  | n + 1 => by
    rw [List.replicate_succ, List.replicate_succ, List.flatten_cons, List.flatten_cons]; exact h.appN (h.rep n)
theorem rep_len {α : Type} (l : List α) : ∀ n : Nat, (List.replicate n l).flatten.length = l.length * n
  | 0 => by simp
  | n + 1 => by rw [List.replicate_succ, List.flatten_cons, List.length_append, rep_len l n, Nat.mul_succ, Nat.add_comm]
theorem opn_rep : Opn X (rL2 rRep) [.val (.own .frz), fz] (.val (.own .frz)) (sem2 fRep) := by
  intro b O H A vs ds d Q ob vb dm nb nd h e q
  obtain ⟨vb, hb⟩ := vb
  cases h with
  | cons h1 t =>
    cases t with
    | cons h2 t2 =>
      cases t2
      unfold sem2 fRep at e
      simp only at e
      split at e
      · split at e <;> cases e
        rename_i s k hz
        cases (show Ow _ _ _ _ _ _ (.int k) _ from h2).int_inv
        cases (show Ow _ _ _ _ _ _ (.lst s) _ from h1) with
        | lstO _ oa ha tt =>
          have n0 := Ow.noA.2 tt (.inr (.inl rfl))
          subst n0
          refine ⟨_, k, _, rfl, rfl, ha, by omega, by omega, by rw [tt.len]; exact hz.2, fun p hp => q _ _ [p] (grow_upd hp) (fun a z => .inr (by rw [List.mem_singleton.mp z]; exact hp)) (List.nodup_cons.mpr ⟨(fun z => nomatch z), List.nodup_nil⟩) (new_lstO ob hb hp ?_)⟩
          exact ((Ow.shrink (O' := O) fun a z => .inl z).2 tt fun a z => nomatch z).rep k.toNat
      · cases e
theorem ev_rep (ha : EV X mu a (.val (.own .frz)) f1) (hb : EV X mu b fz f2) : EV X mu (.BinOp a .Mult b pos) (.val (.own .frz)) (d2 fRep f1 f2) := ev_eq (ev_app (pe_op op_rep ha hb) opn_rep fun σ H Q h => tL_two h) fun G B r e => d2_op e
end
end Xa
/-! ZA1: rules by which a def is gone through, one thing behind the other. -/
namespace Xa
open PySem PySem.Spec
open PyProof.Rows L2
/-- all that a statement may end with -/
def Dn (s : DS) (G : Gam) (N Kb Kc : Gam → Prop) (R : D → Prop) : Prop := ∀ B, GoodB B → ∃ o, s G B = some o ∧ match o with
  | .nx G' B' => GoodB B' ∧ N G'
  | .bk G' B' => GoodB B' ∧ Kb G'
  | .ct G' B' => GoodB B' ∧ Kc G'
  | .rt d B' => GoodB B' ∧ R d
abbrev Nv : Gam → Prop := fun _ => False
def SaysO (f : DP) (G : Gam) (P : Option Int → Prop) : Prop := ∀ B, GoodB B → ∃ d B', f G B = some (d, B') ∧ GoodB B' ∧ P d
section
variable {f f1 f2 f3 : DE} {fs : DA} {u u1 u2 : DT} {s s1 s2 : DS} {G : Gam} {P : D → Prop} {PT : Bool → Prop} {PL : List D → Prop} {R : D → Prop} {N Kb Kc : Gam → Prop}
theorem w_c {d : D} (h : P d) : Says (dC d) G P := fun B g => ⟨d, B, rfl, g, h⟩
theorem w_var {i : Nat} {d : D} (e : gat G i = some d) (h : P d) : Says (dVar i) G P := (says_var e).mono fun _ z => z ▸ h
theorem w_ownL {i : Nat} {ds : List D} (e : gat G i = some (.lst ds)) (h : P (.lst ds)) : Says (dOwn i) G P := (says_own e).mono fun _ z => z ▸ h
theorem w_ownD {i : Nat} {ds : List (D × D)} (e : gat G i = some (.dic ds)) (h : P (.dic ds)) : Says (dOwn i) G P := (says_ownD e).mono fun _ z => z ▸ h
theorem w_atom (h : Says f G fun d => isAtom d = true ∧ P d) : Says (dAtom f) G P := fun B g => by
  obtain ⟨d, B', e, g', ha, p⟩ := h B g
  exact ⟨d, B', by unfold dAtom; rw [e, Option.bind_some, if_pos ha], g', p⟩
theorem w_1 {F : D → Option D} (h : Says f G fun d => ∃ r, F d = some r ∧ P r) : Says (d1 F f) G P := says_d1 h fun _ z => z
theorem w_2 {F : D → D → Option D} (h : Says f1 G fun d => Says f2 G fun e => ∃ r, F d e = some r ∧ P r) : Says (d2 F f1 f2) G P := fun B g => by
  obtain ⟨d, B1, e1, g1, p1⟩ := h B g
  obtain ⟨d', B2, e2, g2, r, er, pr⟩ := p1 B1 g1
  exact ⟨r, B2, by unfold d2; rw [e1, Option.bind_some]; simp only; rw [e2, Option.bind_some]; simp only; rw [er]; rfl, g2, pr⟩
theorem w_nil (h : PL []) : SaysL dNil G PL := fun B g => ⟨[], B, rfl, g, h⟩
theorem w_cons (h : Says f G fun d => SaysL fs G fun ds => PL (d :: ds)) : SaysL (dCons f fs) G PL := fun B g => by
  obtain ⟨d, B1, e1, g1, p1⟩ := h B g
  obtain ⟨ds, B2, e2, g2, p2⟩ := p1 B1 g1
  exact ⟨d :: ds, B2, by unfold dCons; rw [e1, Option.bind_some]; simp only; rw [e2]; rfl, g2, p2⟩
theorem w_op {F : List D → Option D} (h : SaysL fs G fun ds => ∃ r, F ds = some r ∧ P r) : Says (dOp F fs) G P := says_op h fun _ z => z
theorem w_tup (h : SaysL fs G fun ds => ds.length ≤ 1000 ∧ P (.tup ds)) : Says (dOp semTup fs) G P := says_op h fun ds ⟨hl, p⟩ => ⟨_, semTup_ok hl, p⟩
theorem w_lst (h : SaysL fs G fun ds => ds.length ≤ 1000 ∧ P (.lst ds)) : Says (dOp semLst fs) G P := says_op h fun ds ⟨hl, p⟩ => ⟨_, semLst_ok hl, p⟩
theorem w_call {F : FD} (h : SaysL fs G fun ds => Tells F ds P) : Says (dCall F fs) G P := says_call h fun _ z => z
theorem w_if (h : SaysT u G fun c => (c = true → Says f2 G P) ∧ (c = false → Says f3 G P)) : Says (dIf u f2 f3) G P := fun B g => by
  obtain ⟨c, B1, e1, g1, p⟩ := h B g
  cases c with
  | true =>
    obtain ⟨d, B2, e2, g2, p2⟩ := p.1 rfl B1 g1
    exact ⟨d, B2, by unfold dIf; rw [e1, Option.bind_some]; exact e2, g2, p2⟩
  | false =>
    obtain ⟨d, B2, e2, g2, p2⟩ := p.2 rfl B1 g1
    exact ⟨d, B2, by unfold dIf; rw [e1, Option.bind_some]; exact e2, g2, p2⟩
theorem w_B (h : Says f G fun d => ∃ c, d = .bl c ∧ PT c) : SaysT (asB f) G PT := saysT_asB h
theorem w_not (h : SaysT u G fun c => PT (!c)) : SaysT (tNotD u) G PT := saysT_not h fun _ z => z
theorem w_and (h : SaysT u1 G fun c => (c = true → SaysT u2 G PT) ∧ (c = false → PT false)) : SaysT (tAndD u1 u2) G PT := fun B g => by
  obtain ⟨c, B1, e1, g1, p⟩ := h B g
  cases c with
  | true =>
    obtain ⟨d, B2, e2, g2, p2⟩ := p.1 rfl B1 g1
    exact ⟨d, B2, by unfold tAndD; rw [e1, Option.bind_some]; exact e2, g2, p2⟩
  | false => exact ⟨false, B1, by unfold tAndD; rw [e1]; rfl, g1, p.2 rfl⟩
theorem w_or (h : SaysT u1 G fun c => (c = true → PT true) ∧ (c = false → SaysT u2 G PT)) : SaysT (tOrD u1 u2) G PT := fun B g => by
  obtain ⟨c, B1, e1, g1, p⟩ := h B g
  cases c with
  | false =>
    obtain ⟨d, B2, e2, g2, p2⟩ := p.2 rfl B1 g1
    exact ⟨d, B2, by unfold tOrD; rw [e1, Option.bind_some]; exact e2, g2, p2⟩
  | true => exact ⟨true, B1, by unfold tOrD; rw [e1]; rfl, g1, p.1 rfl⟩
theorem w_andE (h : Says f1 G fun d => ∃ c, d = .bl c ∧ (c = true → Says f2 G P) ∧ (c = false → P (.bl false))) : Says (dAnd f1 f2) G P := fun B g => by
  obtain ⟨d, B1, e1, g1, c, rfl, p⟩ := h B g
  cases c with
  | true =>
    obtain ⟨d, B2, e2, g2, p2⟩ := p.1 rfl B1 g1
    exact ⟨d, B2, by unfold dAnd asB; rw [e1]; exact e2, g2, p2⟩
  | false => exact ⟨.bl false, B1, by unfold dAnd asB; rw [e1]; rfl, g1, p.2 rfl⟩
theorem w_orE (h : Says f1 G fun d => ∃ c, d = .bl c ∧ (c = true → P (.bl true)) ∧ (c = false → Says f2 G P)) : Says (dOr f1 f2) G P := fun B g => by
  obtain ⟨d, B1, e1, g1, c, rfl, p⟩ := h B g
  cases c with
  | false =>
    obtain ⟨d, B2, e2, g2, p2⟩ := p.2 rfl B1 g1
    exact ⟨d, B2, by unfold dOr asB; rw [e1]; exact e2, g2, p2⟩
  | true => exact ⟨.bl true, B1, by unfold dOr asB; rw [e1]; rfl, g1, p.1 rfl⟩
theorem and_t {p q : Prop} (h : p) : (true = true → p) ∧ (true = false → q) := ⟨fun _ => h, fun e => nomatch e⟩
theorem and_f {p q : Prop} (h : q) : (false = true → p) ∧ (false = false → q) := ⟨(fun e => nomatch e), fun _ => h⟩
/-! cuts -/
theorem w_no {PO : Option Int → Prop} (h : PO none) : SaysO pNo G PO := fun B g => ⟨none, B, rfl, g, h⟩
theorem w_at {PO : Option Int → Prop} (h : Says f G fun d => ∃ i, d = .int i ∧ PO (some i)) : SaysO (pAt f) G PO := fun B g => by
  obtain ⟨d, B1, e1, g1, i, rfl, p⟩ := h B g
  exact ⟨some i, B1, by unfold pAt; rw [e1]; rfl, g1, p⟩
theorem w_cut {lo hi : DP} (h : Says f G fun d => SaysO lo G fun a => SaysO hi G fun b => ∃ r, fCut d a b = some r ∧ P r) : Says (dCut f lo hi) G P := fun B g => by
  obtain ⟨d, B1, e1, g1, p1⟩ := h B g
  obtain ⟨a, B2, e2, g2, p2⟩ := p1 B1 g1
  obtain ⟨b, B3, e3, g3, r, er, pr⟩ := p2 B2 g2
  exact ⟨r, B3, by unfold dCut; rw [e1, Option.bind_some]; simp only; rw [e2, Option.bind_some]; simp only; rw [e3, Option.bind_some]; simp only; rw [er]; rfl, g3, pr⟩
theorem w_items (h : Says f G fun d => ∃ ds, items d = some ds ∧ PL ds) : SaysL (dItems f) G PL := fun B g => by
  obtain ⟨d, B1, e1, g1, ds, e, q⟩ := h B g
  exact ⟨ds, B1, by unfold dItems; rw [e1, Option.bind_some]; simp only; rw [e]; rfl, g1, q⟩
theorem w_r1 (h : Says f G fun d => ∃ i, d = .int i ∧ (-(2 ^ 62) ≤ i ∧ i < 2 ^ 62) ∧ PL (rangeD 0 i)) : SaysL (dRange1 f) G PL := fun B g => by
  obtain ⟨d, B1, e1, g1, i, rfl, hb, q⟩ := h B g
  exact ⟨_, B1, by unfold dRange1; rw [e1, Option.bind_some]; simp only; rw [if_pos hb], g1, q⟩
theorem w_via {op : List D → Option (List D)} (h : SaysL fs G fun ds => ∃ r, op ds = some r ∧ PL r) : SaysL (dVia op fs) G PL := fun B g => by
  obtain ⟨d, B1, e1, g1, r, er, q⟩ := h B g
  exact ⟨r, B1, by unfold dVia; rw [e1, Option.bind_some]; simp only; rw [er]; rfl, g1, q⟩
theorem w_get {fd fk fx : DE} (h : Says fd G fun d => ∃ kvs, d = .dic kvs ∧ Says fk G fun k => Says fx G fun x => okK kvs k = true ∧ P ((dicFind kvs k).getD x)) : Says (dGet fd fk fx) G P := fun B g => by
  obtain ⟨d, B1, e1, g1, kvs, rfl, p1⟩ := h B g
  obtain ⟨k, B2, e2, g2, p2⟩ := p1 B1 g1
  obtain ⟨x, B3, e3, g3, ok, q⟩ := p2 B2 g2
  refine ⟨_, B3, ?_, g3, q⟩
  unfold dGet
  rw [e1, Option.bind_some]
  simp only
  rw [e2, Option.bind_some]
  simp only
  rw [e3, Option.bind_some]
  simp only
  rw [if_pos ok]
/-! statements -/
theorem Dn.mono {N' Kb' Kc' : Gam → Prop} {R' : D → Prop} (h : Dn s G N Kb Kc R) (z1 : ∀ G, N G → N' G) (z2 : ∀ G, Kb G → Kb' G) (z3 : ∀ G, Kc G → Kc' G) (z4 : ∀ d, R d → R' d) : Dn s G N' Kb' Kc' R' := fun B g => by
  obtain ⟨o, e, q⟩ := h B g
  refine ⟨o, e, ?_⟩
  cases o with
  | nx G' B' => exact ⟨q.1, z1 _ q.2⟩
  | rt d B' => exact ⟨q.1, z4 _ q.2⟩
  | bk => exact ⟨q.1, z2 _ q.2⟩
  | ct => exact ⟨q.1, z3 _ q.2⟩
theorem w_skip (h : N G) : Dn sSkip G N Kb Kc R := fun B g => ⟨_, rfl, g, h⟩
theorem w_break (h : Kb G) : Dn (fun G B => some (.bk G B)) G N Kb Kc R := fun B g => ⟨_, rfl, g, h⟩
theorem w_cont (h : Kc G) : Dn (fun G B => some (.ct G B)) G N Kb Kc R := fun B g => ⟨_, rfl, g, h⟩
theorem w_then (h : Dn s1 G (fun G' => Dn s2 G' N Kb Kc R) Kb Kc R) : Dn (sThen s1 s2) G N Kb Kc R := fun B g => by
  obtain ⟨o, e, q⟩ := h B g
  unfold sThen
  rw [e]
  cases o with
  | nx G' B' => exact q.2 B' q.1
  | rt d B' => exact ⟨_, rfl, q⟩
  | bk => exact ⟨_, rfl, q⟩
  | ct => exact ⟨_, rfl, q⟩
/-- a place where ways meet -/
theorem w_meet (M : Gam → Prop) (h : Dn s1 G M Kb Kc R) (h2 : ∀ G', M G' → Dn s2 G' N Kb Kc R) : Dn (sThen s1 s2) G N Kb Kc R := w_then (h.mono h2 (fun _ z => z) (fun _ z => z) fun _ z => z)
theorem w_ifS (h : SaysT u G fun c => (c = true → Dn s1 G N Kb Kc R) ∧ (c = false → Dn s2 G N Kb Kc R)) : Dn (sIf u s1 s2) G N Kb Kc R := fun B g => by
  obtain ⟨c, B1, e1, g1, p⟩ := h B g
  unfold sIf
  rw [e1, Option.bind_some]
  cases c with
  | true => exact p.1 rfl B1 g1
  | false => exact p.2 rfl B1 g1
theorem w_ret (h : Says f G R) : Dn (sRet f) G N Kb Kc R := fun B g => by
  obtain ⟨d, B1, e1, g1, p⟩ := h B g
  exact ⟨.rt d B1, by unfold sRet; rw [e1]; rfl, g1, p⟩
theorem w_drop (h : Says f G fun _ => N G) : Dn (sDrop f) G N Kb Kc R := fun B g => by
  obtain ⟨d, B1, e1, g1, p⟩ := h B g
  exact ⟨.nx G B1, by unfold sDrop; rw [e1]; rfl, g1, p⟩
theorem w_set {i : Nat} (h : Says f G fun d => N (G.set i (some d))) : Dn (sSet i f) G N Kb Kc R := fun B g => by
  obtain ⟨d, B1, e1, g1, p⟩ := h B g
  exact ⟨.nx (G.set i (some d)) B1, by unfold sSet; rw [e1]; rfl, g1, p⟩
theorem w_sets {is : List Nat} (h : SaysL fs G fun ds => N (setG G is ds)) : Dn (sSets is fs) G N Kb Kc R := fun B g => by
  obtain ⟨d, B1, e1, g1, p⟩ := h B g
  exact ⟨.nx (setG G is d) B1, by unfold sSets; rw [e1]; rfl, g1, p⟩
theorem w_unp {is : List Nat} (h : Says f G fun d => ∃ ds, d = .tup ds ∧ ds.length = is.length ∧ N (setG G is ds)) : Dn (sUnpack is f) G N Kb Kc R := fun B g => by
  obtain ⟨d, B1, e1, g1, ds, rfl, hl, p⟩ := h B g
  exact ⟨.nx (setG G is ds) B1, by unfold sUnpack; rw [e1, Option.bind_some]; simp only; rw [if_pos hl], g1, p⟩
theorem w_mt {i : Nat} {fm : List D → List D → Option (List D × D)} {ds : List D} (h : gat G i = some (.lst ds)) (hf : SaysL fs G fun es => ∃ ds' d, fm ds es = some (ds', d) ∧ N (G.set i (some (.lst ds')))) : Dn (sMt i fm fs) G N Kb Kc R := fun B g => by
  obtain ⟨es, B1, e1, g1, ds', d, e2, q⟩ := hf B g
  exact ⟨.nx (G.set i (some (.lst ds'))) B1, by unfold sMt dMt; rw [e1, Option.bind_some, h, Option.bind_some]; simp only; rw [e2]; rfl, g1, q⟩
theorem w_app {i : Nat} {ds : List D} (h : gat G i = some (.lst ds)) (hl : ds.length < 10000) (hf : Says f G fun d => N (G.set i (some (.lst (ds ++ [d]))))) : Dn (sMt i mAppend (dCons f dNil)) G N Kb Kc R :=
  w_mt h (w_cons (hf.mono fun d p => w_nil ⟨_, _, app_ok hl, p⟩))
/-- a walk: each turn keeps the invariant by its place; a break leads out -/
theorem goFor {tgt : TgD} {body : DS} {Inv : Nat → Gam → Prop} {ds : List D} (step : ∀ i d G, ds[i]? = some d → Inv i G → ∃ G1, tgt G d = some G1 ∧ Dn body G1 (Inv (i + 1)) N (Inv (i + 1)) R) (hn : ∀ G, Inv ds.length G → N G) :
    ∀ (n i : Nat) (G : Gam), n + i = ds.length → Inv i G → Dn (fun G B => forGo tgt body (ds.drop i) G B) G N Kb Kc R := by
  intro n
  induction n with
  | zero =>
    intro i G hi hI B g
    have : i = ds.length := by omega
    subst this
    rw [List.drop_length]
    exact ⟨_, rfl, g, hn _ hI⟩
  | succ n ih =>
    intro i G hi hI B g
    have hlt : i < ds.length := by omega
    obtain ⟨G1, e1, hb⟩ := step i ds[i] G (List.getElem?_eq_getElem hlt) hI
    obtain ⟨o, e2, q⟩ := hb B g
    rw [List.drop_eq_getElem_cons hlt]; show ∃ o, forGo tgt body (ds[i] :: ds.drop (i + 1)) G B = some o ∧ _
    unfold forGo
    rw [e1, Option.bind_some, e2, Option.bind_some]
    cases o with
    | nx G' B' => exact ih (i + 1) G' (by omega) q.2 B' q.1
    | ct G' B' => exact ih (i + 1) G' (by omega) q.2 B' q.1
    | rt d B' => exact ⟨_, rfl, q⟩
    | bk G' B' => exact ⟨_, rfl, q⟩
theorem w_for {src : DA} {tgt : TgD} {body : DS} (h : SaysL src G fun ds => ∃ Inv : Nat → Gam → Prop, Inv 0 G ∧ (∀ i d G, ds[i]? = some d → Inv i G → ∃ G1, tgt G d = some G1 ∧ Dn body G1 (Inv (i + 1)) N (Inv (i + 1)) R) ∧ ∀ G, Inv ds.length G → N G) : Dn (sFor src tgt body) G N Kb Kc R := fun B g => by
  obtain ⟨ds, B1, e1, g1, Inv, h0, step, hn⟩ := h B g
  obtain ⟨o, e, q⟩ := goFor (Kb := Kb) (Kc := Kc) step hn ds.length 0 G (by omega) h0 B1 g1
  exact ⟨o, by unfold sFor; rw [e1, Option.bind_some]; exact e, q⟩
/-- .. that keeps one thing, whatever the place -/
theorem w_each {src : DA} {tgt : TgD} {body : DS} (J : Gam → Prop) (h0 : J G) (h : SaysL src G fun ds => ∀ d ∈ ds, ∀ G, J G → ∃ G1, tgt G d = some G1 ∧ Dn body G1 J N J R) (hn : ∀ G, J G → N G) : Dn (sFor src tgt body) G N Kb Kc R :=
  w_for fun B g => by
    obtain ⟨ds, B1, e1, g1, q⟩ := h B g
    exact ⟨ds, B1, e1, g1, fun _ => J, h0, fun i d G hd hj => q d (List.mem_of_getElem? hd) G hj, hn⟩
theorem w_run {n : Nat} {ds : List D} {body : DS} (h : Dn body (startG n ds) (fun _ => P .non) Nv Nv P) : Tells (runD n body) ds P := fun B g => by
  obtain ⟨o, e, q⟩ := h B g
  unfold runD
  rw [e]
  cases o with
  | nx G' B' => exact ⟨.non, B', rfl, q⟩
  | rt d B' => exact ⟨d, B', rfl, q⟩
  | bk => exact q.2.elim
  | ct => exact q.2.elim
theorem Dn.does (h : Dn s G N Nv Nv R) : Does s G N R := fun B g => by
  obtain ⟨o, e, q⟩ := h B g
  refine ⟨o, e, ?_⟩
  cases o with
  | nx G' B' => exact q
  | rt d B' => exact q
  | bk => exact q.2.elim
  | ct => exact q.2.elim
theorem Does.dn (h : Does s G N R) : Dn s G N Kb Kc R := fun B g => by
  obtain ⟨o, e, q⟩ := h B g
  refine ⟨o, e, ?_⟩
  cases o with
  | nx G' B' => exact q
  | rt d B' => exact q
  | bk => exact q.elim
  | ct => exact q.elim
end
end Xa
namespace Xk65
open PySem PySem.Spec PyProof.Rows L2 Xa
def topS (i : Nat) : Stmt := PySem.Challenge.pw_staffhome_k65_drivers_and_what_they_hear.main.body.getD i (.Pass ⟨0, 0, 0, 0⟩)
section
variable {P : Program}
variable {w : World}
variable {K : PySem.W.Frag}
variable {mg : Str → Option Value}
variable {base : Heap}
/-! _law_bag -/
abbrev t__law_bag : Stmt := topS 6
theorem sc__law_bag : FnScope ["_law_script", "_law_cell"] ["_law_script"] (defScope t__law_bag) := ⟨rfl, rfl, rfl, by decide +kernel, rfl, by decide +kernel, by decide +kernel⟩
theorem ok__law_bag_0 : BlkOk ["_law_script", "_law_cell"] (defScope t__law_bag) { kind := .function, names := [(".0", .local), ("_law_cell", .local), ("abs", .globalImplicit)], isGenerator := false, isCoroutine := false, more := [] } [("_law_cell", 1)] := ⟨rfl, by decide +kernel, by decide +kernel, by decide +kernel, by decide +kernel⟩
theorem k__law_bag {f : Addr} {fd : FuncData} (F : Fun K "_law_bag" "_law_bag" t__law_bag f fd) (m_abs : mg "abs" = none) : FnG P w K mg base 1 f fd ["_law_script"] (spB K) :=
  fng_bag F sc__law_bag fun cdv A outer t H => by
    refine pss_one ?_
    refine ps_ret ?_
    refine pe_lst ?_
    refine pa_cons pe_int ?_
    refine pa_cons pe_int ?_
    refine pa_cons pe_int ?_
    refine pa_cons ?_ pa_nil
    refine pe_lc (own := [("_law_cell", 1)]) rfl sc__law_bag.nd ?_ ok__law_bag_0 (fun _ _ _ _ _ => pg_name (i := 1) sc__law_bag.nd rfl (.inl rfl)) (fun _ _ _ _ _ => pts_nil) (fun _ _ _ _ _ => ?_)
    · refine pi_list ?_
      refine pe_slice sl_list ?_ po_none (po_some pe_int)
      exact pv 0
    · refine pe_callB call_abs rfl m_abs (by decide +kernel) ?_
      refine pa_cons ?_ pa_nil
      exact pv 1
/-! _law_take -/
abbrev t__law_take : Stmt := topS 7
theorem sc__law_take : FnScope ["_law_bag_here", "_law_many", "_law_cell", "_law_stirred", "_law_value", "_law_begin", "_law_second"] ["_law_bag_here", "_law_many"] (defScope t__law_take) := ⟨rfl, rfl, rfl, by decide +kernel, rfl, by decide +kernel, by decide +kernel⟩
noncomputable def B__law_take : DS := (sThen (sIf (asB (d2 fEq (dBagI 0 0) (dC (.int 0)))) (sThen (sSet 2 (d2 fIdx (d2 fCatL (dCut (dBagL 0) (pAt (dBagI 0 2)) pNo) (dOp semLst (dCons (dC (.int 0)) dNil))) (dC (.int 0))))
  (sThen (sBagInc 0 2 (dC (.int 1)))
  (sThen (sIf (asB (d2 fGe (dVar 2) (d2 (fI gPow) (dC (.int 10)) (dC (.int 18))))) (sBagPut 0 0 (dVar 2)) sSkip)
  (sThen (sSet 3 (d2 fAdd (d2 fAdd (d2 fMul (dBagI 0 1) (dC (.int 48271))) (d2 (fI gMod) (d1 fInt (dVar 2)) (dC (.int 2147483647)))) (d2 fMul (dC (.int 7919)) (dBagI 0 2))))
  (sBagPut 0 1 (d2 (fI gMod) (d1 fInt (dVar 3)) (dC (.int 2147483647)))))))) sSkip)
  (sThen (sIf (asB (d2 fGt (dBagI 0 0) (dC (.int 0)))) (sThen (sSet 4 (d2 (fI gMod) (d1 fInt (dBagI 0 0)) (dVar 1)))
  (sThen (sBagPut 0 0 (d2 (fI gDiv) (d1 fInt (dBagI 0 0)) (dVar 1)))
  (sRet (dVar 4)))) sSkip)
  (sThen (sSet 5 (d2 (fI gMod) (d1 fInt (d2 fMul (d2 fAdd (dBagI 0 1) (dC (.int 1))) (dC (.int 39373)))) (dC (.int 1000000007))))
  (sThen (sSet 6 (d2 (fI gMod) (d1 fInt (d2 fMul (d2 (fI gMod) (d1 fInt (d2 fMul (dVar 5) (dVar 5))) (dC (.int 998244353))) (dC (.int 30011)))) (dC (.int 998244353))))
  (sRet (d2 (fI gMod) (d1 fInt (d2 (fI gDiv) (dVar 6) (dC (.int 7)))) (dVar 1)))))))
noncomputable def F__law_take : FD := runD 7 B__law_take
theorem k__law_take {f : Addr} {fd : FuncData} (F : Fun K "_law_take" "_law_take" t__law_take f fd) (g : mg "_law_take" = some (.ref f)) (b : Binds K fd ["_law_bag_here", "_law_many"] []) (m_int : mg "int" = none) : Known P w K mg base 1 "_law_take" ["_law_bag_here", "_law_many"] [.bag, .frz] .frz F__law_take :=
  known_D (N := ["_law_bag_here", "_law_many", "_law_cell", "_law_stirred", "_law_value", "_law_begin", "_law_second"]) (n := 7) (mu := [.bag, .frz, .frz, .frz, .frz, .frz, .frz]) (k := 0) (body := B__law_take) rfl F g b sc__law_take rfl rfl rfl (by decide) fun cdv A outer s H hr hG => by
      refine ess_cons ?_ ?_
      · refine es_if ?_ ?_ ?_
        · refine et_eq (rm64 hr) ?_ ?_
          · refine ev_vw ?_
            exact ev_bagI (k := 0) (by decide) (pv 0) rfl
          refine ev_vw ?_
          exact ev_int (m := .frz)
        · refine ess_cons ?_ ?_
          · refine es_set (i := 2) (m := .frz) sc__law_take.nd rfl (.inl rfl) ?_
            refine ev_idx (rm1 hr) ?_ ?_
            · refine ev_vw ?_
              refine ev_frz (m := .own .frz) ?_
              refine ev_cat ?_ ?_
              · refine ev_vw ?_
                refine ev_sliceV bagL_nt ?_ ?_ ?_
                · exact ev_bagL (pv 0) rfl
                · refine ep_at ?_
                  exact ev_bagI (k := 2) (by decide) (pv 0) rfl
                exact ep_no
              refine ev_vw ?_
              refine ev_frz (m := .own .frz) ?_
              refine ev_lst (n := 1) (m := .frz) ?_
              refine av_cons ?_ ?_
              · exact ev_int (m := .frz)
              exact av_nil
            exact ev_int (m := .frz)
          refine ess_cons ?_ ?_
          · refine es_bagInc (k := 2) (by decide) (pv 0) rfl ?_
            exact ev_int (m := .frz)
          refine ess_cons ?_ ?_
          · refine es_if ?_ ?_ ?_
            · refine et_ge ?_ ?_
              · refine ev_vw ?_
                exact ev_name (pv 2) rfl
              refine ev_vw ?_
              refine ev_pow ?_ ?_
              · refine ev_vw ?_
                exact ev_int (m := .frz)
              refine ev_vw ?_
              exact ev_int (m := .frz)
            · refine ess_one ?_
              refine es_bagPut (k := 0) (by decide) (pv 0) rfl ?_
              exact ev_name (pv 2) rfl
            exact ess_nil
          refine ess_cons ?_ ?_
          · refine es_set (i := 3) (m := .frz) sc__law_take.nd rfl (.inl rfl) ?_
            refine ev_add ?_ ?_
            · refine ev_add ?_ ?_
              · refine ev_mulA ?_ ?_
                · refine ev_vw ?_
                  exact ev_bagI (k := 1) (by decide) (pv 0) rfl
                refine ev_vw ?_
                exact ev_int (m := .frz)
              refine ev_mod ?_ ?_
              · refine ev_vw ?_
                refine ev_intC rfl m_int ?_
                refine ev_vw ?_
                exact ev_name (pv 2) rfl
              refine ev_vw ?_
              exact ev_int (m := .frz)
            refine ev_mulA ?_ ?_
            · refine ev_vw ?_
              exact ev_int (m := .frz)
            refine ev_vw ?_
            exact ev_bagI (k := 2) (by decide) (pv 0) rfl
          refine ess_one ?_
          refine es_bagPut (k := 1) (by decide) (pv 0) rfl ?_
          refine ev_mod ?_ ?_
          · refine ev_vw ?_
            refine ev_intC rfl m_int ?_
            refine ev_vw ?_
            exact ev_name (pv 3) rfl
          refine ev_vw ?_
          exact ev_int (m := .frz)
        exact ess_nil
      refine ess_cons ?_ ?_
      · refine es_if ?_ ?_ ?_
        · refine et_gt ?_ ?_
          · refine ev_vw ?_
            exact ev_bagI (k := 0) (by decide) (pv 0) rfl
          refine ev_vw ?_
          exact ev_int (m := .frz)
        · refine ess_cons ?_ ?_
          · refine es_set (i := 4) (m := .frz) sc__law_take.nd rfl (.inl rfl) ?_
            refine ev_mod ?_ ?_
            · refine ev_vw ?_
              refine ev_intC rfl m_int ?_
              refine ev_vw ?_
              exact ev_bagI (k := 0) (by decide) (pv 0) rfl
            refine ev_vw ?_
            exact ev_name (pv 1) rfl
          refine ess_cons ?_ ?_
          · refine es_bagPut (k := 0) (by decide) (pv 0) rfl ?_
            refine ev_fdiv ?_ ?_
            · refine ev_vw ?_
              refine ev_intC rfl m_int ?_
              refine ev_vw ?_
              exact ev_bagI (k := 0) (by decide) (pv 0) rfl
            refine ev_vw ?_
            exact ev_name (pv 1) rfl
          refine ess_one ?_
          refine es_ret ?_
          exact ev_name (pv 4) rfl
        exact ess_nil
      refine ess_cons ?_ ?_
      · refine es_set (i := 5) (m := .frz) sc__law_take.nd rfl (.inl rfl) ?_
        refine ev_mod ?_ ?_
        · refine ev_vw ?_
          refine ev_intC rfl m_int ?_
          refine ev_vw ?_
          refine ev_mulA ?_ ?_
          · refine ev_vw ?_
            refine ev_add ?_ ?_
            · exact ev_bagI (k := 1) (by decide) (pv 0) rfl
            exact ev_int (m := .frz)
          refine ev_vw ?_
          exact ev_int (m := .frz)
        refine ev_vw ?_
        exact ev_int (m := .frz)
      refine ess_cons ?_ ?_
      · refine es_set (i := 6) (m := .frz) sc__law_take.nd rfl (.inl rfl) ?_
        refine ev_mod ?_ ?_
        · refine ev_vw ?_
          refine ev_intC rfl m_int ?_
          refine ev_vw ?_
          refine ev_mulA ?_ ?_
          · refine ev_vw ?_
            refine ev_mod ?_ ?_
            · refine ev_vw ?_
              refine ev_intC rfl m_int ?_
              refine ev_vw ?_
              refine ev_mulA ?_ ?_
              · refine ev_vw ?_
                exact ev_name (pv 5) rfl
              refine ev_vw ?_
              exact ev_name (pv 5) rfl
            refine ev_vw ?_
            exact ev_int (m := .frz)
          refine ev_vw ?_
          exact ev_int (m := .frz)
        refine ev_vw ?_
        exact ev_int (m := .frz)
      refine ess_one ?_
      refine es_ret ?_
      refine ev_mod ?_ ?_
      · refine ev_vw ?_
        refine ev_intC rfl m_int ?_
        refine ev_vw ?_
        refine ev_fdiv ?_ ?_
        · refine ev_vw ?_
          exact ev_name (pv 6) rfl
        refine ev_vw ?_
        exact ev_int (m := .frz)
      refine ev_vw ?_
      exact ev_name (pv 1) rfl

/-! _law_some -/
abbrev t__law_some : Stmt := topS 8
theorem sc__law_some : FnScope ["_law_bag_here", "_law_things"] ["_law_bag_here", "_law_things"] (defScope t__law_some) := ⟨rfl, rfl, rfl, by decide +kernel, rfl, by decide +kernel, by decide +kernel⟩
noncomputable def B__law_some : DS := (sRet (d2 fIdx (dVar 1) (dCall F__law_take (dCons (dVar 0) (dCons (d1 fLen (dVar 1)) dNil)))))
noncomputable def F__law_some : FD := runD 2 B__law_some
theorem k__law_some {f : Addr} {fd : FuncData} (F : Fun K "_law_some" "_law_some" t__law_some f fd) (g : mg "_law_some" = some (.ref f)) (b : Binds K fd ["_law_bag_here", "_law_things"] []) (K__law_take : Known P w K mg base 1 "_law_take" ["_law_bag_here", "_law_many"] [.bag, .frz] .frz F__law_take) (m_len : mg "len" = none) : Known P w K mg base 2 "_law_some" ["_law_bag_here", "_law_things"] [.bag, .frz] .frz F__law_some :=
  known_D (N := ["_law_bag_here", "_law_things"]) (n := 2) (mu := [.bag, .frz]) (k := 1) (body := B__law_some) rfl F g b sc__law_some rfl rfl rfl (by decide) fun cdv A outer s H hr hG => by
      refine ess_one ?_
      refine es_ret ?_
      refine ev_idx (rm1 hr) ?_ ?_
      · refine ev_vw ?_
        exact ev_name (pv 1) rfl
      refine ev_callD K__law_take hr (by decide) hG (by decide) rfl ?_
      refine av_cons ?_ ?_
      · exact ev_name (pv 0) rfl
      refine av_cons ?_ ?_
      · refine ev_len rfl m_len ?_
        refine ev_vw ?_
        exact ev_name (pv 1) rfl
      exact av_nil

/-! driver_at_first -/
abbrev t_driver_at_first : Stmt := topS 1
theorem sc_driver_at_first : FnScope ["name"] ["name"] (defScope t_driver_at_first) := ⟨rfl, rfl, rfl, by decide +kernel, rfl, by decide +kernel, by decide +kernel⟩
noncomputable def B_driver_at_first : DS := (sRet (dOp semTup (dCons (dVar 0) (dCons (dC .non) (dCons (dC .non) dNil)))))
noncomputable def F_driver_at_first : FD := runD 1 B_driver_at_first
theorem k_driver_at_first {f : Addr} {fd : FuncData} (F : Fun K "driver_at_first" "driver_at_first" t_driver_at_first f fd) (g : mg "driver_at_first" = some (.ref f)) (b : Binds K fd ["name"] []) : Known P w K mg base 1 "driver_at_first" ["name"] [.frz] .frz F_driver_at_first :=
  known_D (N := ["name"]) (n := 1) (mu := [.frz]) (k := 0) (body := B_driver_at_first) rfl F g b sc_driver_at_first rfl rfl rfl (by decide) fun cdv A outer s H hr hG => by
      refine ess_one ?_
      refine es_ret ?_
      refine ev_tup (n := 3) (m := .frz) ?_
      refine av_cons ?_ ?_
      · exact ev_name (pv 0) rfl
      refine av_cons ?_ ?_
      · exact ev_non (m := .frz)
      refine av_cons ?_ ?_
      · exact ev_non (m := .frz)
      exact av_nil

/-! _law_alike -/
abbrev t__law_alike : Stmt := topS 9
theorem sc__law_alike : FnScope ["_law_found", "_law_due"] ["_law_found", "_law_due"] (defScope t__law_alike) := ⟨rfl, rfl, rfl, by decide +kernel, rfl, by decide +kernel, by decide +kernel⟩
noncomputable def B__law_alike : DS := (sRet (dAnd (d2 fEq (dVar 0) (dVar 1)) (d2 fEq (d1 fRepr (dVar 0)) (d1 fRepr (dVar 1)))))
noncomputable def F__law_alike : FD := runD 2 B__law_alike
theorem k__law_alike {f : Addr} {fd : FuncData} (F : Fun K "_law_alike" "_law_alike" t__law_alike f fd) (g : mg "_law_alike" = some (.ref f)) (b : Binds K fd ["_law_found", "_law_due"] []) (m_repr : mg "repr" = none) : Known P w K mg base 1 "_law_alike" ["_law_found", "_law_due"] [.frz, .frz] .frz F__law_alike :=
  known_D (N := ["_law_found", "_law_due"]) (n := 2) (mu := [.frz, .frz]) (k := 0) (body := B__law_alike) rfl F g b sc__law_alike rfl rfl rfl (by decide) fun cdv A outer s H hr hG => by
      refine ess_one ?_
      refine es_ret ?_
      refine ev_and ?_ ?_
      · refine ev_eqC (rm64 hr) ?_ ?_
        · refine ev_vw ?_
          exact ev_name (pv 0) rfl
        refine ev_vw ?_
        exact ev_name (pv 1) rfl
      refine ev_and1 ?_
      refine ev_eqC (rm64 hr) ?_ ?_
      · refine ev_vw ?_
        refine ev_repr hG (rm66 hr) rfl m_repr ?_
        refine ev_vw ?_
        exact ev_name (pv 0) rfl
      refine ev_vw ?_
      refine ev_repr hG (rm66 hr) rfl m_repr ?_
      refine ev_vw ?_
      exact ev_name (pv 1) rfl

/-! heard -/
abbrev t_heard : Stmt := topS 3
theorem sc_heard : FnScope ["driver", "answer", "name", "done", "going"] ["driver", "answer"] (defScope t_heard) := ⟨rfl, rfl, rfl, by decide +kernel, rfl, by decide +kernel, by decide +kernel⟩
noncomputable def B_heard : DS := (sThen (sUnpack [2, 3, 4] (dVar 0))
  (sThen (sIf (tOrD (asB (d1 fIsNot (dVar 4))) (asB (d2 fNe (d2 fIdx (dVar 1) (dC (.int 0))) (dC (.str "go"))))) (sRet (dVar 0)) sSkip)
  (sThen (sIf (tAndD (asB (d1 fIsNot (dVar 3))) (asB (d2 fLe (d2 fIdx (dVar 1) (dC (.int 1))) (dVar 3)))) (sRet (dVar 0)) sSkip)
  (sRet (dOp semTup (dCons (dVar 2) (dCons (dVar 3) (dCons (dOp semTup (dCons (d2 fIdx (dVar 1) (dC (.int 1))) (dCons (d2 fIdx (dVar 1) (dC (.int 2))) dNil))) dNil))))))))
noncomputable def F_heard : FD := runD 5 B_heard
theorem k_heard {f : Addr} {fd : FuncData} (F : Fun K "heard" "heard" t_heard f fd) (g : mg "heard" = some (.ref f)) (b : Binds K fd ["driver", "answer"] []) : Known P w K mg base 1 "heard" ["driver", "answer"] [.frz, .frz] .frz F_heard :=
  known_D (N := ["driver", "answer", "name", "done", "going"]) (n := 5) (mu := [.frz, .frz, .frz, .frz, .frz]) (k := 0) (body := B_heard) rfl F g b sc_heard rfl rfl rfl (by decide) fun cdv A outer s H hr hG => by
      refine ess_cons ?_ ?_
      · refine es_unpack (tg := .Constant .none 0 ⟨0, 0, 0, 0⟩) (is := [2, 3, 4]) (m := .frz) ?_ (by decide) rfl (pgs_cons (pg_name (i := 2) sc_heard.nd rfl (.inl rfl)) (pgs_cons (pg_name (i := 3) sc_heard.nd rfl (.inl rfl)) (pgs_cons (pg_name (i := 4) sc_heard.nd rfl (.inl rfl)) pgs_nil))) rfl
        exact ev_name (pv 0) rfl
      refine ess_cons ?_ ?_
      · refine es_if ?_ ?_ ?_
        · refine EW.et ?_
          refine ew_or ?_ ?_
          · refine et_notN ?_
            refine ev_vw ?_
            exact ev_name (pv 4) rfl
          refine ew_or1 ?_
          refine et_ne (rm64 hr) ?_ ?_
          · refine ev_vw ?_
            refine ev_idx (rm1 hr) ?_ ?_
            · refine ev_vw ?_
              exact ev_name (pv 1) rfl
            exact ev_int (m := .frz)
          refine ev_vw ?_
          exact ev_str (m := .frz)
        · refine ess_one ?_
          refine es_ret ?_
          exact ev_name (pv 0) rfl
        exact ess_nil
      refine ess_cons ?_ ?_
      · refine es_if ?_ ?_ ?_
        · refine EW.et ?_
          refine ew_and ?_ ?_
          · refine et_notN ?_
            refine ev_vw ?_
            exact ev_name (pv 3) rfl
          refine ew_and1 ?_
          refine et_le ?_ ?_
          · refine ev_vw ?_
            refine ev_idx (rm1 hr) ?_ ?_
            · refine ev_vw ?_
              exact ev_name (pv 1) rfl
            exact ev_int (m := .frz)
          refine ev_vw ?_
          exact ev_name (pv 3) rfl
        · refine ess_one ?_
          refine es_ret ?_
          exact ev_name (pv 0) rfl
        exact ess_nil
      refine ess_one ?_
      refine es_ret ?_
      refine ev_tup (n := 3) (m := .frz) ?_
      refine av_cons ?_ ?_
      · exact ev_name (pv 2) rfl
      refine av_cons ?_ ?_
      · exact ev_name (pv 3) rfl
      refine av_cons ?_ ?_
      · refine ev_tup (n := 2) (m := .frz) ?_
        refine av_cons ?_ ?_
        · refine ev_idx (rm1 hr) ?_ ?_
          · refine ev_vw ?_
            exact ev_name (pv 1) rfl
          exact ev_int (m := .frz)
        refine av_cons ?_ ?_
        · refine ev_idx (rm1 hr) ?_ ?_
          · refine ev_vw ?_
            exact ev_name (pv 1) rfl
          exact ev_int (m := .frz)
        exact av_nil
      exact av_nil

/-! came -/
abbrev t_came : Stmt := topS 4
theorem sc_came : FnScope ["driver"] ["driver"] (defScope t_came) := ⟨rfl, rfl, rfl, by decide +kernel, rfl, by decide +kernel, by decide +kernel⟩
noncomputable def B_came : DS := (sRet (dOp semTup (dCons (d2 fIdx (dVar 0) (dC (.int 0))) (dCons (d2 fIdx (d2 fIdx (dVar 0) (dC (.int 2))) (dC (.int 0))) (dCons (dC .non) dNil)))))
noncomputable def F_came : FD := runD 1 B_came
theorem k_came {f : Addr} {fd : FuncData} (F : Fun K "came" "came" t_came f fd) (g : mg "came" = some (.ref f)) (b : Binds K fd ["driver"] []) : Known P w K mg base 1 "came" ["driver"] [.frz] .frz F_came :=
  known_D (N := ["driver"]) (n := 1) (mu := [.frz]) (k := 0) (body := B_came) rfl F g b sc_came rfl rfl rfl (by decide) fun cdv A outer s H hr hG => by
      refine ess_one ?_
      refine es_ret ?_
      refine ev_tup (n := 3) (m := .frz) ?_
      refine av_cons ?_ ?_
      · refine ev_idx (rm1 hr) ?_ ?_
        · refine ev_vw ?_
          exact ev_name (pv 0) rfl
        exact ev_int (m := .frz)
      refine av_cons ?_ ?_
      · refine ev_idx (rm1 hr) ?_ ?_
        · refine ev_vw ?_
          refine ev_idx (rm1 hr) ?_ ?_
          · refine ev_vw ?_
            exact ev_name (pv 0) rfl
          exact ev_int (m := .frz)
        exact ev_int (m := .frz)
      refine av_cons ?_ ?_
      · exact ev_non (m := .frz)
      exact av_nil

/-! ask_of -/
abbrev t_ask_of : Stmt := topS 2
theorem sc_ask_of : FnScope ["driver", "name", "done", "going"] ["driver"] (defScope t_ask_of) := ⟨rfl, rfl, rfl, by decide +kernel, rfl, by decide +kernel, by decide +kernel⟩
noncomputable def B_ask_of : DS := (sThen (sUnpack [1, 2, 3] (dVar 0))
  (sRet (dIf (asB (d1 fIsNone (dVar 3))) (dOp semTup (dCons (dVar 1) (dCons (dVar 2) dNil))) (dC .non))))
noncomputable def F_ask_of : FD := runD 4 B_ask_of
theorem k_ask_of {f : Addr} {fd : FuncData} (F : Fun K "ask_of" "ask_of" t_ask_of f fd) (g : mg "ask_of" = some (.ref f)) (b : Binds K fd ["driver"] []) : Known P w K mg base 1 "ask_of" ["driver"] [.frz] .frz F_ask_of :=
  known_D (N := ["driver", "name", "done", "going"]) (n := 4) (mu := [.frz, .frz, .frz, .frz]) (k := 0) (body := B_ask_of) rfl F g b sc_ask_of rfl rfl rfl (by decide) fun cdv A outer s H hr hG => by
      refine ess_cons ?_ ?_
      · refine es_unpack (tg := .Constant .none 0 ⟨0, 0, 0, 0⟩) (is := [1, 2, 3]) (m := .frz) ?_ (by decide) rfl (pgs_cons (pg_name (i := 1) sc_ask_of.nd rfl (.inl rfl)) (pgs_cons (pg_name (i := 2) sc_ask_of.nd rfl (.inl rfl)) (pgs_cons (pg_name (i := 3) sc_ask_of.nd rfl (.inl rfl)) pgs_nil))) rfl
        exact ev_name (pv 0) rfl
      refine ess_one ?_
      refine es_ret ?_
      refine ev_if ?_ ?_ ?_
      · refine et_isN ?_
        refine ev_vw ?_
        exact ev_name (pv 3) rfl
      · refine ev_tup (n := 2) (m := .frz) ?_
        refine av_cons ?_ ?_
        · exact ev_name (pv 1) rfl
        refine av_cons ?_ ?_
        · exact ev_name (pv 2) rfl
        exact av_nil
      exact ev_non (m := .frz)

/-! law -/
abbrev t_law : Stmt := topS 10
theorem sc_law : FnScope ["_law_script", "_law_bag_here", "_law_turn", "_law_name", "_law_driver", "_law_due", "_law_step", "_law_numbers", "_law_number", "_law_how", "_law_answers", "_law_answer", "_law_shown", "_law_later"] ["_law_script"] (defScope t_law) := ⟨rfl, rfl, rfl, by decide +kernel, rfl, by decide +kernel, by decide +kernel⟩

noncomputable def B_law : DS := (sThen (sFor (dRange1 (dC (.int 4))) (tgName 2) (sThen (sSet 3 (dCall F__law_some (dCons (dVar 1) (dCons (dOp semLst (dCons (dC (.str "a")) (dCons (dC (.str "milltrain")) (dCons (dC (.str "x")) dNil)))) dNil))))
  (sThen (sSets [4, 5] (dCons (dCall F_driver_at_first (dCons (dVar 3) dNil)) (dCons (dOp semTup (dCons (dVar 3) (dCons (dC .non) (dCons (dC .non) dNil)))) dNil)))
  (sFor (dRange1 (dC (.int 14))) (tgName 6) (sThen (sIf (tNotD (asB (dCall F__law_alike (dCons (dOp semLst (dCons (dVar 4) (dCons (dCall F_ask_of (dCons (dVar 4) dNil)) dNil))) (dCons (dOp semLst (dCons (dVar 5) (dCons (dIf (asB (d1 fIsNot (d2 fIdx (dVar 5) (dC (.int 2))))) (dC .non) (dCut (dVar 5) pNo (pAt (dC (.int 2))))) dNil))) dNil))))) (sRet (dC (.bl false))) sSkip)
  (sThen (sSet 7 (d2 fCatL (dOp semLst (dCons (dC (.int 0)) (dCons (dC (.int 1)) (dCons (dC (.int 5)) (dCons (dCall F__law_take (dCons (dVar 1) (dCons (dC (.int 12)) dNil))) dNil))))) (dIf (asB (d1 fIsNot (d2 fIdx (dVar 5) (dC (.int 1))))) (dOp semLst (dCons (d2 fIdx (dVar 5) (dC (.int 1))) (dCons (d2 fAdd (d2 fIdx (dVar 5) (dC (.int 1))) (dC (.int 1))) (dCons (d2 fAdd (d2 fIdx (dVar 5) (dC (.int 1))) (dC (.int 3))) dNil)))) (dOp semLst dNil))))
  (sThen (sSets [8, 9] (dCons (dCall F__law_some (dCons (dVar 1) (dCons (dVar 7) dNil))) (dCons (dCall F__law_some (dCons (dVar 1) (dCons (dOp semLst (dCons (dC (.str "staff")) (dCons (dC (.str "ticket")) (dCons (dC (.str "free")) dNil)))) dNil))) dNil)))
  (sThen (sSet 10 (d2 fCatL (d2 fRep (dOp semLst (dCons (dOp semTup (dCons (dC (.str "go")) (dCons (dVar 8) (dCons (dVar 9) dNil)))) dNil)) (dC (.int 4))) (dOp semLst (dCons (dOp semTup (dCons (dC (.str "home")) dNil)) (dCons (dOp semTup (dCons (dC (.str "wait")) (dCons (dC (.str "b")) dNil))) (dCons (dOp semTup (dCons (dC (.str "away")) dNil)) (dCons (dOp semTup (dCons (dC (.str "late")) dNil)) dNil)))))))
  (sThen (sSet 11 (dCall F__law_some (dCons (dVar 1) (dCons (d2 fCatL (dVar 10) (dOp semLst (dCons (dOp semTup (dCons (dC (.str "refused")) (dCons (dOp semTup (dCons (dC (.str "shut")) (dCons (dOp semTup (dCons (dC (.str "a")) dNil)) dNil))) dNil))) dNil))) dNil))))
  (sIf (tAndD (asB (d1 fIsNot (d2 fIdx (dVar 5) (dC (.int 2))))) (asB (d2 fEq (dCall F__law_take (dCons (dVar 1) (dCons (dC (.int 2)) dNil))) (dC (.int 0))))) (sSets [4, 5] (dCons (dCall F_came (dCons (dVar 4) dNil)) (dCons (dOp semTup (dCons (dVar 3) (dCons (d2 fIdx (d2 fIdx (dVar 5) (dC (.int 2))) (dC (.int 0))) (dCons (dC .non) dNil)))) dNil))) (sThen (sSet 12 (d1 fRepr (dVar 4)))
  (sThen (sSet 13 (dCall F_heard (dCons (dVar 4) (dCons (dVar 11) dNil))))
  (sThen (sIf (tAndD (asB (d1 fIsNone (d2 fIdx (dVar 5) (dC (.int 2))))) (tAndD (asB (d2 fEq (d2 fIdx (dVar 11) (dC (.int 0))) (dC (.str "go")))) (tOrD (asB (d1 fIsNone (d2 fIdx (dVar 5) (dC (.int 1))))) (asB (d2 fGt (d2 fIdx (dVar 11) (dC (.int 1))) (d2 fIdx (dVar 5) (dC (.int 1)))))))) (sSet 5 (dOp semTup (dCons (dVar 3) (dCons (d2 fIdx (dVar 5) (dC (.int 1))) (dCons (dOp semTup (dCons (d2 fIdx (dVar 11) (dC (.int 1))) (dCons (d2 fIdx (dVar 11) (dC (.int 2))) dNil))) dNil))))) sSkip)
  (sThen (sIf (tOrD (asB (d2 fNe (d1 fRepr (dVar 4)) (dVar 12))) (tNotD (asB (dCall F__law_alike (dCons (dCall F_heard (dCons (dVar 4) (dCons (dVar 11) dNil))) (dCons (dVar 13) dNil)))))) (sRet (dC (.bl false))) sSkip)
  (sSet 4 (dVar 13))))))))))))))))
  (sRet (dC (.bl true))))
theorem k_law {f fB : Addr} {fd fdB : FuncData} (F : Fun K "law" "law" t_law f fd) (FB : Fun K "_law_bag" "_law_bag" t__law_bag fB fdB) (gB : mg "_law_bag" = some (.ref fB)) (bB : Binds K fdB ["_law_script"] []) (m_abs : mg "abs" = none) (K__law_some : Known P w K mg base 2 "_law_some" ["_law_bag_here", "_law_things"] [.bag, .frz] .frz F__law_some) (K_driver_at_first : Known P w K mg base 1 "driver_at_first" ["name"] [.frz] .frz F_driver_at_first) (K__law_alike : Known P w K mg base 1 "_law_alike" ["_law_found", "_law_due"] [.frz, .frz] .frz F__law_alike) (K_heard : Known P w K mg base 1 "heard" ["driver", "answer"] [.frz, .frz] .frz F_heard) (K__law_take : Known P w K mg base 1 "_law_take" ["_law_bag_here", "_law_many"] [.bag, .frz] .frz F__law_take) (K_came : Known P w K mg base 1 "came" ["driver"] [.frz] .frz F_came) (K_ask_of : Known P w K mg base 1 "ask_of" ["driver"] [.frz] .frz F_ask_of) (m_range : mg "range" = none) (m_repr : mg "repr" = none)
    (hv : ∀ ns : List Int, ns.length ≤ 63 → ∃ B', B_law (gamL 14) (bag0 ns) = some (.rt (.bl true) B')) : FnG P w K mg base 3 f fd ["_law_script"] (spL K 63) :=
  fng_law (N := ["_law_script", "_law_bag_here", "_law_turn", "_law_name", "_law_driver", "_law_due", "_law_step", "_law_numbers", "_law_number", "_law_how", "_law_answers", "_law_answer", "_law_shown", "_law_later"]) (n := 14) (k := 2) (mu := [.frz, .bag, .frz, .frz, .frz, .frz, .frz, .frz, .frz, .frz, .frz, .frz, .frz, .frz]) (body := B_law) F sc_law rfl (by decide) rfl rfl
    (fun cdv A outer t H hr hG => by
      refine ps_set (i := 1) sc_law.nd rfl (.inl rfl) ?_
      refine pe_callG (k__law_bag FB m_abs) (hr.mono (by decide)) hG rfl gB FB.kp bB ?_
      refine pa_cons ?_ pa_nil
      exact pv 0)
    (fun cdv A outer t H hr hG => by
      refine ess_cons ?_ ?_
      · refine es_for PassesOwn.never rfl ?_ (pg_name (i := 2) sc_law.nd rfl (.inl rfl)) (tgOk_name0 (i := 2) rfl) ?_
        · refine eis_range1 rfl m_range ?_
          exact ev_int (m := .frz)
        refine ess_cons ?_ ?_
        · refine es_set (i := 3) (m := .frz) sc_law.nd rfl (.inl rfl) ?_
          refine ev_callD K__law_some hr (by decide) hG (by decide) rfl ?_
          refine av_cons ?_ ?_
          · exact ev_name (pv 1) rfl
          refine av_cons ?_ ?_
          · refine ev_frz (m := .own .frz) ?_
            refine ev_lst (n := 3) (m := .frz) ?_
            refine av_cons ?_ ?_
            · exact ev_str (m := .frz)
            refine av_cons ?_ ?_
            · exact ev_str (m := .frz)
            refine av_cons ?_ ?_
            · exact ev_str (m := .frz)
            exact av_nil
          exact av_nil
        refine ess_cons ?_ ?_
        · refine es_par (i := 4) (j := 5) (m1 := .frz) (m2 := .frz) rfl sc_law.nd rfl rfl (by decide) rfl rfl ?_ rfl rfl
          refine av_cons ?_ ?_
          · refine ev_callD K_driver_at_first hr (by decide) hG (by decide) rfl ?_
            refine av_cons ?_ ?_
            · exact ev_name (pv 3) rfl
            exact av_nil
          refine av_cons ?_ ?_
          · refine ev_tup (n := 3) (m := .frz) ?_
            refine av_cons ?_ ?_
            · exact ev_name (pv 3) rfl
            refine av_cons ?_ ?_
            · exact ev_non (m := .frz)
            refine av_cons ?_ ?_
            · exact ev_non (m := .frz)
            exact av_nil
          exact av_nil
        refine ess_one ?_
        refine es_for PassesOwn.never rfl ?_ (pg_name (i := 6) sc_law.nd rfl (.inl rfl)) (tgOk_name0 (i := 6) rfl) ?_
        · refine eis_range1 rfl m_range ?_
          exact ev_int (m := .frz)
        refine ess_cons ?_ ?_
        · refine es_if ?_ ?_ ?_
          · refine et_not ?_
            refine et_val ?_
            refine ev_callD K__law_alike hr (by decide) hG (by decide) rfl ?_
            refine av_cons ?_ ?_
            · refine ev_frz (m := .own .frz) ?_
              refine ev_lst (n := 2) (m := .frz) ?_
              refine av_cons ?_ ?_
              · exact ev_name (pv 4) rfl
              refine av_cons ?_ ?_
              · refine ev_callD K_ask_of hr (by decide) hG (by decide) rfl ?_
                refine av_cons ?_ ?_
                · exact ev_name (pv 4) rfl
                exact av_nil
              exact av_nil
            refine av_cons ?_ ?_
            · refine ev_frz (m := .own .frz) ?_
              refine ev_lst (n := 2) (m := .frz) ?_
              refine av_cons ?_ ?_
              · exact ev_name (pv 5) rfl
              refine av_cons ?_ ?_
              · refine ev_if ?_ ?_ ?_
                · refine et_notN ?_
                  refine ev_vw ?_
                  refine ev_idx (rm1 hr) ?_ ?_
                  · refine ev_vw ?_
                    exact ev_name (pv 5) rfl
                  exact ev_int (m := .frz)
                · exact ev_non (m := .frz)
                refine ev_slice ?_ ?_ ?_
                · exact ev_name (pv 5) rfl
                · exact ep_no
                refine ep_at ?_
                exact ev_int (m := .frz)
              exact av_nil
            exact av_nil
          · refine ess_one ?_
            refine es_ret ?_
            exact ev_bl (m := .frz)
          exact ess_nil
        refine ess_cons ?_ ?_
        · refine es_set (i := 7) (m := .frz) sc_law.nd rfl (.inl rfl) ?_
          refine ev_frz (m := .own .frz) ?_
          refine ev_cat ?_ ?_
          · refine ev_vw ?_
            refine ev_frz (m := .own .frz) ?_
            refine ev_lst (n := 4) (m := .frz) ?_
            refine av_cons ?_ ?_
            · exact ev_int (m := .frz)
            refine av_cons ?_ ?_
            · exact ev_int (m := .frz)
            refine av_cons ?_ ?_
            · exact ev_int (m := .frz)
            refine av_cons ?_ ?_
            · refine ev_callD K__law_take hr (by decide) hG (by decide) rfl ?_
              refine av_cons ?_ ?_
              · exact ev_name (pv 1) rfl
              refine av_cons ?_ ?_
              · exact ev_int (m := .frz)
              exact av_nil
            exact av_nil
          refine ev_vw ?_
          refine ev_if ?_ ?_ ?_
          · refine et_notN ?_
            refine ev_vw ?_
            refine ev_idx (rm1 hr) ?_ ?_
            · refine ev_vw ?_
              exact ev_name (pv 5) rfl
            exact ev_int (m := .frz)
          · refine ev_frz (m := .own .frz) ?_
            refine ev_lst (n := 3) (m := .frz) ?_
            refine av_cons ?_ ?_
            · refine ev_idx (rm1 hr) ?_ ?_
              · refine ev_vw ?_
                exact ev_name (pv 5) rfl
              exact ev_int (m := .frz)
            refine av_cons ?_ ?_
            · refine ev_add ?_ ?_
              · refine ev_idx (rm1 hr) ?_ ?_
                · refine ev_vw ?_
                  exact ev_name (pv 5) rfl
                exact ev_int (m := .frz)
              exact ev_int (m := .frz)
            refine av_cons ?_ ?_
            · refine ev_add ?_ ?_
              · refine ev_idx (rm1 hr) ?_ ?_
                · refine ev_vw ?_
                  exact ev_name (pv 5) rfl
                exact ev_int (m := .frz)
              exact ev_int (m := .frz)
            exact av_nil
          refine ev_frz (m := .own .frz) ?_
          refine ev_lst (n := 0) (m := .frz) ?_
          exact av_nil
        refine ess_cons ?_ ?_
        · refine es_par (i := 8) (j := 9) (m1 := .frz) (m2 := .frz) rfl sc_law.nd rfl rfl (by decide) rfl rfl ?_ rfl rfl
          refine av_cons ?_ ?_
          · refine ev_callD K__law_some hr (by decide) hG (by decide) rfl ?_
            refine av_cons ?_ ?_
            · exact ev_name (pv 1) rfl
            refine av_cons ?_ ?_
            · exact ev_name (pv 7) rfl
            exact av_nil
          refine av_cons ?_ ?_
          · refine ev_callD K__law_some hr (by decide) hG (by decide) rfl ?_
            refine av_cons ?_ ?_
            · exact ev_name (pv 1) rfl
            refine av_cons ?_ ?_
            · refine ev_frz (m := .own .frz) ?_
              refine ev_lst (n := 3) (m := .frz) ?_
              refine av_cons ?_ ?_
              · exact ev_str (m := .frz)
              refine av_cons ?_ ?_
              · exact ev_str (m := .frz)
              refine av_cons ?_ ?_
              · exact ev_str (m := .frz)
              exact av_nil
            exact av_nil
          exact av_nil
        refine ess_cons ?_ ?_
        · refine es_set (i := 10) (m := .frz) sc_law.nd rfl (.inl rfl) ?_
          refine ev_frz (m := .own .frz) ?_
          refine ev_cat ?_ ?_
          · refine ev_vw ?_
            refine ev_frz (m := .own .frz) ?_
            refine ev_rep ?_ ?_
            · refine ev_lst (n := 1) (m := .frz) ?_
              refine av_cons ?_ ?_
              · refine ev_tup (n := 3) (m := .frz) ?_
                refine av_cons ?_ ?_
                · exact ev_str (m := .frz)
                refine av_cons ?_ ?_
                · exact ev_name (pv 8) rfl
                refine av_cons ?_ ?_
                · exact ev_name (pv 9) rfl
                exact av_nil
              exact av_nil
            exact ev_int (m := .frz)
          refine ev_vw ?_
          refine ev_frz (m := .own .frz) ?_
          refine ev_lst (n := 4) (m := .frz) ?_
          refine av_cons ?_ ?_
          · refine ev_tup (n := 1) (m := .frz) ?_
            refine av_cons ?_ ?_
            · exact ev_str (m := .frz)
            exact av_nil
          refine av_cons ?_ ?_
          · refine ev_tup (n := 2) (m := .frz) ?_
            refine av_cons ?_ ?_
            · exact ev_str (m := .frz)
            refine av_cons ?_ ?_
            · exact ev_str (m := .frz)
            exact av_nil
          refine av_cons ?_ ?_
          · refine ev_tup (n := 1) (m := .frz) ?_
            refine av_cons ?_ ?_
            · exact ev_str (m := .frz)
            exact av_nil
          refine av_cons ?_ ?_
          · refine ev_tup (n := 1) (m := .frz) ?_
            refine av_cons ?_ ?_
            · exact ev_str (m := .frz)
            exact av_nil
          exact av_nil
        refine ess_cons ?_ ?_
        · refine es_set (i := 11) (m := .frz) sc_law.nd rfl (.inl rfl) ?_
          refine ev_callD K__law_some hr (by decide) hG (by decide) rfl ?_
          refine av_cons ?_ ?_
          · exact ev_name (pv 1) rfl
          refine av_cons ?_ ?_
          · refine ev_frz (m := .own .frz) ?_
            refine ev_cat ?_ ?_
            · refine ev_vw ?_
              exact ev_name (pv 10) rfl
            refine ev_vw ?_
            refine ev_frz (m := .own .frz) ?_
            refine ev_lst (n := 1) (m := .frz) ?_
            refine av_cons ?_ ?_
            · refine ev_tup (n := 2) (m := .frz) ?_
              refine av_cons ?_ ?_
              · exact ev_str (m := .frz)
              refine av_cons ?_ ?_
              · refine ev_tup (n := 2) (m := .frz) ?_
                refine av_cons ?_ ?_
                · exact ev_str (m := .frz)
                refine av_cons ?_ ?_
                · refine ev_tup (n := 1) (m := .frz) ?_
                  refine av_cons ?_ ?_
                  · exact ev_str (m := .frz)
                  exact av_nil
                exact av_nil
              exact av_nil
            exact av_nil
          exact av_nil
        refine ess_one ?_
        refine es_if ?_ ?_ ?_
        · refine EW.et ?_
          refine ew_and ?_ ?_
          · refine et_notN ?_
            refine ev_vw ?_
            refine ev_idx (rm1 hr) ?_ ?_
            · refine ev_vw ?_
              exact ev_name (pv 5) rfl
            exact ev_int (m := .frz)
          refine ew_and1 ?_
          refine et_eq (rm64 hr) ?_ ?_
          · refine ev_vw ?_
            refine ev_callD K__law_take hr (by decide) hG (by decide) rfl ?_
            refine av_cons ?_ ?_
            · exact ev_name (pv 1) rfl
            refine av_cons ?_ ?_
            · exact ev_int (m := .frz)
            exact av_nil
          refine ev_vw ?_
          exact ev_int (m := .frz)
        · refine ess_one ?_
          refine es_par (i := 4) (j := 5) (m1 := .frz) (m2 := .frz) rfl sc_law.nd rfl rfl (by decide) rfl rfl ?_ rfl rfl
          refine av_cons ?_ ?_
          · refine ev_callD K_came hr (by decide) hG (by decide) rfl ?_
            refine av_cons ?_ ?_
            · exact ev_name (pv 4) rfl
            exact av_nil
          refine av_cons ?_ ?_
          · refine ev_tup (n := 3) (m := .frz) ?_
            refine av_cons ?_ ?_
            · exact ev_name (pv 3) rfl
            refine av_cons ?_ ?_
            · refine ev_idx (rm1 hr) ?_ ?_
              · refine ev_vw ?_
                refine ev_idx (rm1 hr) ?_ ?_
                · refine ev_vw ?_
                  exact ev_name (pv 5) rfl
                exact ev_int (m := .frz)
              exact ev_int (m := .frz)
            refine av_cons ?_ ?_
            · exact ev_non (m := .frz)
            exact av_nil
          exact av_nil
        refine ess_cons ?_ ?_
        · refine es_set (i := 12) (m := .frz) sc_law.nd rfl (.inl rfl) ?_
          refine ev_repr hG (rm66 hr) rfl m_repr ?_
          refine ev_vw ?_
          exact ev_name (pv 4) rfl
        refine ess_cons ?_ ?_
        · refine es_set (i := 13) (m := .frz) sc_law.nd rfl (.inl rfl) ?_
          refine ev_callD K_heard hr (by decide) hG (by decide) rfl ?_
          refine av_cons ?_ ?_
          · exact ev_name (pv 4) rfl
          refine av_cons ?_ ?_
          · exact ev_name (pv 11) rfl
          exact av_nil
        refine ess_cons ?_ ?_
        · refine es_if ?_ ?_ ?_
          · refine EW.et ?_
            refine ew_and ?_ ?_
            · refine et_isN ?_
              refine ev_vw ?_
              refine ev_idx (rm1 hr) ?_ ?_
              · refine ev_vw ?_
                exact ev_name (pv 5) rfl
              exact ev_int (m := .frz)
            refine ew_and ?_ ?_
            · refine et_eq (rm64 hr) ?_ ?_
              · refine ev_vw ?_
                refine ev_idx (rm1 hr) ?_ ?_
                · refine ev_vw ?_
                  exact ev_name (pv 11) rfl
                exact ev_int (m := .frz)
              refine ev_vw ?_
              exact ev_str (m := .frz)
            refine ew_and1 ?_
            refine EW.et ?_
            refine ew_or ?_ ?_
            · refine et_isN ?_
              refine ev_vw ?_
              refine ev_idx (rm1 hr) ?_ ?_
              · refine ev_vw ?_
                exact ev_name (pv 5) rfl
              exact ev_int (m := .frz)
            refine ew_or1 ?_
            refine et_gt ?_ ?_
            · refine ev_vw ?_
              refine ev_idx (rm1 hr) ?_ ?_
              · refine ev_vw ?_
                exact ev_name (pv 11) rfl
              exact ev_int (m := .frz)
            refine ev_vw ?_
            refine ev_idx (rm1 hr) ?_ ?_
            · refine ev_vw ?_
              exact ev_name (pv 5) rfl
            exact ev_int (m := .frz)
          · refine ess_one ?_
            refine es_set (i := 5) (m := .frz) sc_law.nd rfl (.inl rfl) ?_
            refine ev_tup (n := 3) (m := .frz) ?_
            refine av_cons ?_ ?_
            · exact ev_name (pv 3) rfl
            refine av_cons ?_ ?_
            · refine ev_idx (rm1 hr) ?_ ?_
              · refine ev_vw ?_
                exact ev_name (pv 5) rfl
              exact ev_int (m := .frz)
            refine av_cons ?_ ?_
            · refine ev_tup (n := 2) (m := .frz) ?_
              refine av_cons ?_ ?_
              · refine ev_idx (rm1 hr) ?_ ?_
                · refine ev_vw ?_
                  exact ev_name (pv 11) rfl
                exact ev_int (m := .frz)
              refine av_cons ?_ ?_
              · refine ev_idx (rm1 hr) ?_ ?_
                · refine ev_vw ?_
                  exact ev_name (pv 11) rfl
                exact ev_int (m := .frz)
              exact av_nil
            exact av_nil
          exact ess_nil
        refine ess_cons ?_ ?_
        · refine es_if ?_ ?_ ?_
          · refine EW.et ?_
            refine ew_or ?_ ?_
            · refine et_ne (rm64 hr) ?_ ?_
              · refine ev_vw ?_
                refine ev_repr hG (rm66 hr) rfl m_repr ?_
                refine ev_vw ?_
                exact ev_name (pv 4) rfl
              refine ev_vw ?_
              exact ev_name (pv 12) rfl
            refine ew_or1 ?_
            refine et_not ?_
            refine et_val ?_
            refine ev_callD K__law_alike hr (by decide) hG (by decide) rfl ?_
            refine av_cons ?_ ?_
            · refine ev_callD K_heard hr (by decide) hG (by decide) rfl ?_
              refine av_cons ?_ ?_
              · exact ev_name (pv 4) rfl
              refine av_cons ?_ ?_
              · exact ev_name (pv 11) rfl
              exact av_nil
            refine av_cons ?_ ?_
            · exact ev_name (pv 13) rfl
            exact av_nil
          · refine ess_one ?_
            refine es_ret ?_
            exact ev_bl (m := .frz)
          exact ess_nil
        refine ess_one ?_
        refine es_set (i := 4) (m := .frz) sc_law.nd rfl (.inl rfl) ?_
        exact ev_name (pv 13) rfl
      refine ess_one ?_
      refine es_ret ?_
      exact ev_bl (m := .frz)
    ) hv
-- END OF DEFS
theorem all_mk {l : PySem.W.OpenLaw} {w : World} {K : PySem.W.Frag} {h : Heap} {mg : Str → Option Value} {fa f1 f2 f3 f4 f5 f6 f7 f8 f9 : Addr} (X : K.In h) (G : h.Ns mainGlobals mg) (hfa : mg "law" = some (.ref fa))
    {od1 an1 : Option Addr} {sl1 : Array (Option Value)} {oc1 kV1 dc1 pm1 cd1 ct1 : Value} (a1 : PySem.W.nsIn K mainGlobals "_law_bag" = some (some (.ref f1))) (l1 : K.lookup f1 = some ⟨oc1, od1, .func (PySem.W.fnOf "_law_bag" "_law_bag" (defArgs t__law_bag) (defBody t__law_bag) (defScope t__law_bag) .none kV1 dc1 pm1 an1 cd1 ct1), sl1⟩) (c1 : PySem.W.codeIn K cd1 "_law_bag" = true) (k1 : PySem.W.keepIn K (.ref f1) = true)
    {od2 an2 : Option Addr} {sl2 : Array (Option Value)} {oc2 kV2 dc2 pm2 cd2 ct2 : Value} (a2 : PySem.W.nsIn K mainGlobals "_law_take" = some (some (.ref f2))) (l2 : K.lookup f2 = some ⟨oc2, od2, .func (PySem.W.fnOf "_law_take" "_law_take" (defArgs t__law_take) (defBody t__law_take) (defScope t__law_take) .none kV2 dc2 pm2 an2 cd2 ct2), sl2⟩) (c2 : PySem.W.codeIn K cd2 "_law_take" = true) (k2 : PySem.W.keepIn K (.ref f2) = true)
    {od3 an3 : Option Addr} {sl3 : Array (Option Value)} {oc3 kV3 dc3 pm3 cd3 ct3 : Value} (a3 : PySem.W.nsIn K mainGlobals "_law_some" = some (some (.ref f3))) (l3 : K.lookup f3 = some ⟨oc3, od3, .func (PySem.W.fnOf "_law_some" "_law_some" (defArgs t__law_some) (defBody t__law_some) (defScope t__law_some) .none kV3 dc3 pm3 an3 cd3 ct3), sl3⟩) (c3 : PySem.W.codeIn K cd3 "_law_some" = true) (k3 : PySem.W.keepIn K (.ref f3) = true)
    {od4 an4 : Option Addr} {sl4 : Array (Option Value)} {oc4 kV4 dc4 pm4 cd4 ct4 : Value} (a4 : PySem.W.nsIn K mainGlobals "driver_at_first" = some (some (.ref f4))) (l4 : K.lookup f4 = some ⟨oc4, od4, .func (PySem.W.fnOf "driver_at_first" "driver_at_first" (defArgs t_driver_at_first) (defBody t_driver_at_first) (defScope t_driver_at_first) .none kV4 dc4 pm4 an4 cd4 ct4), sl4⟩) (c4 : PySem.W.codeIn K cd4 "driver_at_first" = true) (k4 : PySem.W.keepIn K (.ref f4) = true)
    {od5 an5 : Option Addr} {sl5 : Array (Option Value)} {oc5 kV5 dc5 pm5 cd5 ct5 : Value} (a5 : PySem.W.nsIn K mainGlobals "_law_alike" = some (some (.ref f5))) (l5 : K.lookup f5 = some ⟨oc5, od5, .func (PySem.W.fnOf "_law_alike" "_law_alike" (defArgs t__law_alike) (defBody t__law_alike) (defScope t__law_alike) .none kV5 dc5 pm5 an5 cd5 ct5), sl5⟩) (c5 : PySem.W.codeIn K cd5 "_law_alike" = true) (k5 : PySem.W.keepIn K (.ref f5) = true)
    {od6 an6 : Option Addr} {sl6 : Array (Option Value)} {oc6 kV6 dc6 pm6 cd6 ct6 : Value} (a6 : PySem.W.nsIn K mainGlobals "heard" = some (some (.ref f6))) (l6 : K.lookup f6 = some ⟨oc6, od6, .func (PySem.W.fnOf "heard" "heard" (defArgs t_heard) (defBody t_heard) (defScope t_heard) .none kV6 dc6 pm6 an6 cd6 ct6), sl6⟩) (c6 : PySem.W.codeIn K cd6 "heard" = true) (k6 : PySem.W.keepIn K (.ref f6) = true)
    {od7 an7 : Option Addr} {sl7 : Array (Option Value)} {oc7 kV7 dc7 pm7 cd7 ct7 : Value} (a7 : PySem.W.nsIn K mainGlobals "came" = some (some (.ref f7))) (l7 : K.lookup f7 = some ⟨oc7, od7, .func (PySem.W.fnOf "came" "came" (defArgs t_came) (defBody t_came) (defScope t_came) .none kV7 dc7 pm7 an7 cd7 ct7), sl7⟩) (c7 : PySem.W.codeIn K cd7 "came" = true) (k7 : PySem.W.keepIn K (.ref f7) = true)
    {od8 an8 : Option Addr} {sl8 : Array (Option Value)} {oc8 kV8 dc8 pm8 cd8 ct8 : Value} (a8 : PySem.W.nsIn K mainGlobals "ask_of" = some (some (.ref f8))) (l8 : K.lookup f8 = some ⟨oc8, od8, .func (PySem.W.fnOf "ask_of" "ask_of" (defArgs t_ask_of) (defBody t_ask_of) (defScope t_ask_of) .none kV8 dc8 pm8 an8 cd8 ct8), sl8⟩) (c8 : PySem.W.codeIn K cd8 "ask_of" = true) (k8 : PySem.W.keepIn K (.ref f8) = true)
    {od9 an9 : Option Addr} {sl9 : Array (Option Value)} {oc9 kV9 dc9 pm9 cd9 ct9 : Value} (a9 : PySem.W.nsIn K mainGlobals "law" = some (some (.ref f9))) (l9 : K.lookup f9 = some ⟨oc9, od9, .func (PySem.W.fnOf "law" "law" (defArgs t_law) (defBody t_law) (defScope t_law) .none kV9 dc9 pm9 an9 cd9 ct9), sl9⟩) (c9 : PySem.W.codeIn K cd9 "law" = true) (k9 : PySem.W.keepIn K (.ref f9) = true)
    (z_abs : PySem.W.nsIn K mainGlobals "abs" = some none)
    (z_int : PySem.W.nsIn K mainGlobals "int" = some none)
    (z_len : PySem.W.nsIn K mainGlobals "len" = some none)
    (z_range : PySem.W.nsIn K mainGlobals "range" = some none)
    (z_repr : PySem.W.nsIn K mainGlobals "repr" = some none)
    (hv : ∀ ns : List Int, ns.length ≤ 63 → ∃ B', B_law (gamL 14) (bag0 ns) = some (.rt (.bl true) B')) :
    ∃ fd : FuncData, (∀ (s : Shared) (v : Value), BindsTo s fd ⟨[v], []⟩ [("_law_script", v)]) ∧ ∀ base : Heap, K.In base → base.Ns mainGlobals mg → FnG l.prog w K mg base 3 fa fd ["_law_script"] (spL K 63) := by
  have e := hfa.symm.trans (PySem.W.mg_of X G a9)
  cases e
  have F1 := fun_mk (st := t__law_bag) l1 c1 k1
  have b1 := F1.binds (ps := ["_law_script"]) fun _ _ _ _ _ _ us hl => match us, hl with | [_], _ => rfl
  have F2 := fun_mk (st := t__law_take) l2 c2 k2
  have b2 := F2.binds (ps := ["_law_bag_here", "_law_many"]) fun _ _ _ _ _ _ us hl => match us, hl with | [_, _], _ => rfl
  have F3 := fun_mk (st := t__law_some) l3 c3 k3
  have b3 := F3.binds (ps := ["_law_bag_here", "_law_things"]) fun _ _ _ _ _ _ us hl => match us, hl with | [_, _], _ => rfl
  have F4 := fun_mk (st := t_driver_at_first) l4 c4 k4
  have b4 := F4.binds (ps := ["name"]) fun _ _ _ _ _ _ us hl => match us, hl with | [_], _ => rfl
  have F5 := fun_mk (st := t__law_alike) l5 c5 k5
  have b5 := F5.binds (ps := ["_law_found", "_law_due"]) fun _ _ _ _ _ _ us hl => match us, hl with | [_, _], _ => rfl
  have F6 := fun_mk (st := t_heard) l6 c6 k6
  have b6 := F6.binds (ps := ["driver", "answer"]) fun _ _ _ _ _ _ us hl => match us, hl with | [_, _], _ => rfl
  have F7 := fun_mk (st := t_came) l7 c7 k7
  have b7 := F7.binds (ps := ["driver"]) fun _ _ _ _ _ _ us hl => match us, hl with | [_], _ => rfl
  have F8 := fun_mk (st := t_ask_of) l8 c8 k8
  have b8 := F8.binds (ps := ["driver"]) fun _ _ _ _ _ _ us hl => match us, hl with | [_], _ => rfl
  have F9 := fun_mk (st := t_law) l9 c9 k9
  have m_abs := PySem.W.mg_none_of X G z_abs
  have m_int := PySem.W.mg_none_of X G z_int
  have m_len := PySem.W.mg_none_of X G z_len
  have m_range := PySem.W.mg_none_of X G z_range
  have m_repr := PySem.W.mg_none_of X G z_repr
  refine ⟨PySem.W.fnOf "law" "law" (defArgs t_law) (defBody t_law) (defScope t_law) .none kV9 dc9 pm9 an9 cd9 ct9, fun s v => .of_eq rfl, fun base _ _ => ?_⟩
  have K__law_take := k__law_take (P := l.prog) (w := w) (base := base) F2 (PySem.W.mg_of X G a2) b2  m_int
  have K__law_some := k__law_some (P := l.prog) (w := w) (base := base) F3 (PySem.W.mg_of X G a3) b3 K__law_take m_len
  have K_driver_at_first := k_driver_at_first (P := l.prog) (w := w) (base := base) F4 (PySem.W.mg_of X G a4) b4  
  have K__law_alike := k__law_alike (P := l.prog) (w := w) (base := base) F5 (PySem.W.mg_of X G a5) b5  m_repr
  have K_heard := k_heard (P := l.prog) (w := w) (base := base) F6 (PySem.W.mg_of X G a6) b6  
  have K_came := k_came (P := l.prog) (w := w) (base := base) F7 (PySem.W.mg_of X G a7) b7  
  have K_ask_of := k_ask_of (P := l.prog) (w := w) (base := base) F8 (PySem.W.mg_of X G a8) b8  
  exact k_law F9 F1 (PySem.W.mg_of X G a1) b1 m_abs K__law_some K_driver_at_first K__law_alike K_heard K__law_take K_came K_ask_of m_range m_repr hv
end
end Xk65
/-! K65: drivers and what they hear. -/
namespace Xk65
open PySem PySem.Spec PyProof.Rows L2 Xa
local macro_rules | `(tactic| rfl') => `(tactic| first
  | with_reducible refine w_c ?_
  | ((with_reducible apply w_var); (· exact rfl))
  | ((with_reducible apply w_ownL); (· exact rfl))
  | with_reducible refine w_1 ?_
  | with_reducible refine w_2 ?_
  | with_reducible refine w_nil ?_
  | with_reducible refine w_cons ?_
  | (with_reducible refine w_tup ?_)
  | (with_reducible refine w_lst ?_)
  | with_reducible refine w_call ?_
  | with_reducible refine w_if ?_
  | with_reducible refine w_B ?_
  | with_reducible refine w_not ?_
  | with_reducible refine w_and ?_
  | with_reducible refine w_or ?_
  | with_reducible refine w_cut ?_
  | with_reducible refine w_no ?_
  | with_reducible refine w_at ?_
  | with_reducible refine w_skip ?_
  | with_reducible refine w_then ?_
  | with_reducible refine w_ifS ?_
  | with_reducible refine w_ret ?_
  | with_reducible refine w_set ?_
  | with_reducible refine w_sets ?_
  | (with_reducible refine w_unp ?_)
  | (with_reducible refine Exists.intro _ (And.intro (Eq.refl _) ?_))
  | (refine Exists.intro _ (And.intro rfl ?_))
  | (refine And.intro (Nat.le_of_ble_eq_true rfl) ?_)
  | (refine And.intro rfl ?_)
  | (refine Exists.intro _ (And.intro (atI_nat (j := 0) rfl) ?_))
  | (refine Exists.intro _ (And.intro (atI_nat (j := 1) rfl) ?_))
  | refine and_t ?_
  | refine and_f ?_)
def oI : Option Int → D | none => .non | some i => .int i
def oG : Option (Int × Str) → D | none => .non | some p => .tup [.int p.1, .str p.2]
def drv (n : Str) (d : Option Int) (g : Option (Int × Str)) : D := .tup [.str n, oI d, oG g]
def askD (n : Str) (d : Option Int) (g : Option (Int × Str)) : D := match g with | none => .tup [.str n, oI d] | some _ => .non
theorem tells_first {n : Str} : Tells F_driver_at_first [.str n] (· = drv n none none) := by
  refine w_run ?_
  unfold B_driver_at_first
  repeat rfl'
theorem tells_ask {n : Str} {d : Option Int} {g : Option (Int × Str)} : Tells F_ask_of [drv n d g] (· = askD n d g) := by
  refine w_run ?_
  unfold B_ask_of
  cases d <;> cases g
  all_goals
    repeat rfl'
theorem tells_came {n : Str} {d : Option Int} {p : Int × Str} : Tells F_came [drv n d (some p)] (· = drv n (some p.1) none) := by
  refine w_run ?_
  unfold B_came
  repeat rfl'
/-- what may be heard; of GRANTS the number and how -/
inductive Ans : D → Option (Int × Str) → Prop
  | go {i : Int} {h : Str} : Ans (.tup [.str "go", .int i, .str h]) (some (i, h))
  | no {w : Str} {r : List D} : w ≠ "go" → Ans (.tup (.str w :: r)) none
def hearG (d : Option Int) (g go : Option (Int × Str)) : Option (Int × Str) := match g, go with
  | some p, _ => some p
  | none, none => none
  | none, some p => match d with
    | none => some p
    | some k => if p.1 ≤ k then none else some p
theorem tells_heard {n : Str} {d : Option Int} {g go : Option (Int × Str)} {a : D} (h : Ans a go) : Tells F_heard [drv n d g, a] (· = drv n d (hearG d g go)) := by
  refine w_run ?_
  unfold B_heard
  cases g with
  | some p =>
    cases d <;> cases h
    all_goals
      repeat rfl'
  | none =>
    cases h with
    | no hw =>
      cases d
      all_goals
        repeat rfl'
        rw [decide_eq_false hw]
        repeat rfl'
    | @go i h =>
      cases d with
      | none => repeat rfl'
      | some k =>
        repeat rfl'
        refine ⟨fun hc => ?_, fun hc => ?_⟩
        · repeat rfl'
          show _ = drv n (some k) (if i ≤ k then none else some (i, h))
          rw [if_pos (of_decide_eq_true hc)]
        · repeat rfl'
          show _ = drv n (some k) (if i ≤ k then none else some (i, h))
          rw [if_neg (of_decide_eq_false hc)]
          rfl
theorem tells_someL' {ds : List D} (h : ds ≠ []) (hl : ds.length < 1000) {P : D → Prop} (z : ∀ d ∈ ds, P d) : Tells F__law_some [.non, .lst ds] P := (tells_someL draws_take h (by omega)).mono z
theorem tells_take' {m : Int} (h0 : 0 < m) (h1 : m < 1073741824) {P : D → Prop} (z : ∀ r, 0 ≤ r → r < m → P (.int r)) : Tells F__law_take [.non, .int m] P := (tells_take h0 h1).mono fun d ⟨r, e, a, b⟩ => e ▸ z r a b
theorem tells_alike' {d : D} (h : Nice 5 2000 d) {P : D → Prop} (p : P (.bl true)) : Tells F__law_alike [d, d] P := (nice_alike h (by decide) (by decide)).mono fun _ e => e ▸ p
def Small (b : Int) (i : Int) : Prop := 0 ≤ i ∧ i ≤ b
def hows : List Str := ["staff", "ticket", "free"]
def Bd (b : Int) (d : Option Int) (g : Option (Int × Str)) : Prop := (∀ k, d = some k → Small b k) ∧ ∀ p, g = some p → Small b p.1 ∧ p.2 ∈ hows
def Inv (n : Str) (y0 y2 : Option D) (j : Nat) (G : Gam) : Prop := ∃ d g y6 y7 y8 y9 y10 y11 y12 y13, Bd (12 + 3 * j) d g ∧ G = [y0, some .non, y2, some (.str n), some (drv n d g), some (drv n d g), y6, y7, y8, y9, y10, y11, y12, y13]
noncomputable def turnB : DS := (sThen (sIf (tNotD (asB (dCall F__law_alike (dCons (dOp semLst (dCons (dVar 4) (dCons (dCall F_ask_of (dCons (dVar 4) dNil)) dNil))) (dCons (dOp semLst (dCons (dVar 5) (dCons (dIf (asB (d1 fIsNot (d2 fIdx (dVar 5) (dC (.int 2))))) (dC .non) (dCut (dVar 5) pNo (pAt (dC (.int 2))))) dNil))) dNil))))) (sRet (dC (.bl false))) sSkip)
  (sThen (sSet 7 (d2 fCatL (dOp semLst (dCons (dC (.int 0)) (dCons (dC (.int 1)) (dCons (dC (.int 5)) (dCons (dCall F__law_take (dCons (dVar 1) (dCons (dC (.int 12)) dNil))) dNil))))) (dIf (asB (d1 fIsNot (d2 fIdx (dVar 5) (dC (.int 1))))) (dOp semLst (dCons (d2 fIdx (dVar 5) (dC (.int 1))) (dCons (d2 fAdd (d2 fIdx (dVar 5) (dC (.int 1))) (dC (.int 1))) (dCons (d2 fAdd (d2 fIdx (dVar 5) (dC (.int 1))) (dC (.int 3))) dNil)))) (dOp semLst dNil))))
  (sThen (sSets [8, 9] (dCons (dCall F__law_some (dCons (dVar 1) (dCons (dVar 7) dNil))) (dCons (dCall F__law_some (dCons (dVar 1) (dCons (dOp semLst (dCons (dC (.str "staff")) (dCons (dC (.str "ticket")) (dCons (dC (.str "free")) dNil)))) dNil))) dNil)))
  (sThen (sSet 10 (d2 fCatL (d2 fRep (dOp semLst (dCons (dOp semTup (dCons (dC (.str "go")) (dCons (dVar 8) (dCons (dVar 9) dNil)))) dNil)) (dC (.int 4))) (dOp semLst (dCons (dOp semTup (dCons (dC (.str "home")) dNil)) (dCons (dOp semTup (dCons (dC (.str "wait")) (dCons (dC (.str "b")) dNil))) (dCons (dOp semTup (dCons (dC (.str "away")) dNil)) (dCons (dOp semTup (dCons (dC (.str "late")) dNil)) dNil)))))))
  (sThen (sSet 11 (dCall F__law_some (dCons (dVar 1) (dCons (d2 fCatL (dVar 10) (dOp semLst (dCons (dOp semTup (dCons (dC (.str "refused")) (dCons (dOp semTup (dCons (dC (.str "shut")) (dCons (dOp semTup (dCons (dC (.str "a")) dNil)) dNil))) dNil))) dNil))) dNil))))
  (sIf (tAndD (asB (d1 fIsNot (d2 fIdx (dVar 5) (dC (.int 2))))) (asB (d2 fEq (dCall F__law_take (dCons (dVar 1) (dCons (dC (.int 2)) dNil))) (dC (.int 0))))) (sSets [4, 5] (dCons (dCall F_came (dCons (dVar 4) dNil)) (dCons (dOp semTup (dCons (dVar 3) (dCons (d2 fIdx (d2 fIdx (dVar 5) (dC (.int 2))) (dC (.int 0))) (dCons (dC .non) dNil)))) dNil))) (sThen (sSet 12 (d1 fRepr (dVar 4)))
  (sThen (sSet 13 (dCall F_heard (dCons (dVar 4) (dCons (dVar 11) dNil))))
  (sThen (sIf (tAndD (asB (d1 fIsNone (d2 fIdx (dVar 5) (dC (.int 2))))) (tAndD (asB (d2 fEq (d2 fIdx (dVar 11) (dC (.int 0))) (dC (.str "go")))) (tOrD (asB (d1 fIsNone (d2 fIdx (dVar 5) (dC (.int 1))))) (asB (d2 fGt (d2 fIdx (dVar 11) (dC (.int 1))) (d2 fIdx (dVar 5) (dC (.int 1)))))))) (sSet 5 (dOp semTup (dCons (dVar 3) (dCons (d2 fIdx (dVar 5) (dC (.int 1))) (dCons (dOp semTup (dCons (d2 fIdx (dVar 11) (dC (.int 1))) (dCons (d2 fIdx (dVar 11) (dC (.int 2))) dNil))) dNil))))) sSkip)
  (sThen (sIf (tOrD (asB (d2 fNe (d1 fRepr (dVar 4)) (dVar 12))) (tNotD (asB (dCall F__law_alike (dCons (dCall F_heard (dCons (dVar 4) (dCons (dVar 11) dNil))) (dCons (dVar 13) dNil)))))) (sRet (dC (.bl false))) sSkip)
  (sSet 4 (dVar 13))))))))))))
theorem small_int {b i : Int} {k n : Nat} (h : Small b i) (hb : b ≤ 1000) (hn : 12 ≤ n) : Nice k n (.int i) := by
  have h1 : i.natAbs ≤ 1000 := by unfold Small at h; omega
  have h3 : i.natAbs.log2 < 11 := by
    by_cases h0 : i.natAbs = 0
    · rw [h0]; decide
    · exact (Nat.log2_lt h0).mpr (by omega)
  refine ⟨?_, Nat.zero_le _, ?_⟩
  · unfold txt
    rw [decide_eq_true (PyData.shown_int_le (by omega)), decide_eq_true (by omega)]
    rfl
  · show (if (i == 0) = true then 0 else i.natAbs.log2 + 1) ≤ n
    split <;> omega
theorem lay_word {w : Str} (h : w ∈ (["a", "milltrain", "x", "staff", "ticket", "free"] : List Str)) : Lay w ∧ w.length ≤ 12 := by
  simp only [List.mem_cons, List.not_mem_nil, or_false] at h
  rcases h with rfl | rfl | rfl | rfl | rfl | rfl <;> exact ⟨by decide +kernel, by decide +kernel⟩
theorem nice_drv {n : Str} {d : Option Int} {g : Option (Int × Str)} {b : Int} (hn : n ∈ (["a", "milltrain", "x"] : List Str)) (bd : Bd b d g) (hb : b ≤ 1000) : Nice 2 200 (drv n d g) := by
  have hn' : n ∈ (["a", "milltrain", "x", "staff", "ticket", "free"] : List Str) := by
    simp only [List.mem_cons, List.not_mem_nil, or_false] at hn ⊢
    rcases hn with h | h | h <;> simp [h]
  have n0 : Nice 1 26 (.str n) := nice_str (lay_word hn').1 (by have := (lay_word hn').2; omega)
  have n1 : Nice 1 26 (oI d) := by
    cases d with
    | none => exact nice_non
    | some k => exact small_int (bd.1 k rfl) hb (by decide)
  have n2 : Nice 1 26 (oG g) := by
    cases g with
    | none => exact nice_non
    | some p =>
      have hp := bd.2 p rfl
      have hw : p.2 ∈ (["a", "milltrain", "x", "staff", "ticket", "free"] : List Str) := by
        have h2 := hp.2
        unfold hows at h2
        simp only [List.mem_cons, List.not_mem_nil, or_false] at h2 ⊢
        rcases h2 with h | h | h <;> simp [h]
      refine (nice_tup (k := 0) (n := 12) (c := 2) (fun z hz => ?_) (Nat.le_refl _)).mono (Nat.le_refl _) (Nat.le_refl _)
      simp only [List.mem_cons, List.not_mem_nil, or_false] at hz
      rcases hz with rfl | rfl
      · exact small_int hp.1 hb (by decide)
      · exact nice_str (lay_word hw).1 (lay_word hw).2
  refine (nice_tup (k := 1) (n := 26) (c := 3) (fun z hz => ?_) (Nat.le_refl _)).mono (Nat.le_refl _) (by decide)
  simp only [List.mem_cons, List.not_mem_nil, or_false] at hz
  rcases hz with rfl | rfl | rfl
  · exact n0
  · exact n1
  · exact n2
theorem does_turn {n : Str} {d : Option Int} {g : Option (Int × Str)} {y0 y2 y6 y7 y8 y9 y10 y11 y12 y13 : Option D} {j : Nat} (hn : n ∈ (["a", "milltrain", "x"] : List Str)) (hj : j < 14) (bd : Bd (12 + 3 * j) d g) {N : Gam → Prop} :
    Dn turnB [y0, some .non, y2, some (.str n), some (drv n d g), some (drv n d g), y6, y7, y8, y9, y10, y11, y12, y13] (Inv n y0 y2 (j + 1)) N (Inv n y0 y2 (j + 1)) (· = .bl true) := by
  have nd := nice_drv hn bd (by omega)
  have na : Nice 2 200 (askD n d g) := by
    cases g with
    | some p => exact nice_non
    | none =>
      have n0 : Nice 1 26 (.str n) := nice_str (lay_word (by
        simp only [List.mem_cons, List.not_mem_nil, or_false] at hn ⊢
        rcases hn with h | h | h <;> simp [h])).1 (by
        have := (lay_word (w := n) (by
          simp only [List.mem_cons, List.not_mem_nil, or_false] at hn ⊢
          rcases hn with h | h | h <;> simp [h])).2
        omega)
      refine (nice_tup (k := 1) (n := 26) (c := 2) (fun z hz => ?_) (Nat.le_refl _)).mono (Nat.le_refl _) (by decide)
      simp only [List.mem_cons, List.not_mem_nil, or_false] at hz
      rcases hz with rfl | rfl
      · exact n0
      · cases d with
        | none => exact nice_non
        | some k => exact small_int (bd.1 k rfl) (by omega) (by decide)
  unfold turnB
  refine w_meet (· = [y0, some .non, y2, some (.str n), some (drv n d g), some (drv n d g), y6, y7, y8, y9, y10, y11, y12, y13]) ?_ ?_
  · rfl'
    refine w_not (w_B ?_)
    repeat rfl'
    refine tells_ask.mono fun a ea => ?_
    subst ea
    have key : ∀ {P : D → Prop}, P (.bl true) → Tells F__law_alike [.lst [drv n d g, askD n d g], .lst [drv n d g, askD n d g]] P := fun p => tells_alike' (by
      refine (nice_lst (k := 2) (n := 200) (c := 2) (fun z hz => ?_) (Nat.le_refl _)).mono (by decide) (by decide)
      simp only [List.mem_cons, List.not_mem_nil, or_false] at hz
      rcases hz with rfl | rfl
      · exact nd
      · exact na) p
    cases g <;> cases d
    all_goals
      repeat rfl'
      refine key ?_
      repeat rfl'
  rintro _ rfl
  refine w_meet (fun G => ∃ nums, nums ≠ [] ∧ nums.length < 10 ∧ (∀ z ∈ nums, ∃ i, z = .int i ∧ Small (12 + 3 * (j + 1 : Nat)) i) ∧ G = [y0, some .non, y2, some (.str n), some (drv n d g), some (drv n d g), y6, some (.lst nums), y8, y9, y10, y11, y12, y13]) ?_ ?_
  · repeat rfl'
    refine tells_take' (by decide) (by decide) fun r r0 r1 => ?_
    cases d with
    | none =>
      repeat rfl'
      refine ⟨_, by simp, by simp, ?_, rfl⟩
      intro z hz
      simp only [List.mem_cons, List.not_mem_nil, or_false, List.cons_append, List.nil_append] at hz
      rcases hz with rfl | rfl | rfl | rfl <;> exact ⟨_, rfl, by unfold Small; omega⟩
    | some k =>
      have bk := bd.1 k rfl
      repeat rfl'
      refine ⟨_, by simp, by simp, ?_, rfl⟩
      intro z hz
      simp only [List.mem_cons, List.not_mem_nil, or_false, List.cons_append, List.nil_append] at hz
      unfold Small at bk
      rcases hz with rfl | rfl | rfl | rfl | rfl | rfl | rfl <;> exact ⟨_, rfl, by unfold Small; omega⟩
  rintro _ ⟨nums, nn, nl, nz, rfl⟩
  refine w_meet (fun G => ∃ i h, Small (12 + 3 * (j + 1 : Nat)) i ∧ h ∈ hows ∧ G = [y0, some .non, y2, some (.str n), some (drv n d g), some (drv n d g), y6, some (.lst nums), some (.int i), some (.str h), y10, y11, y12, y13]) ?_ ?_
  · repeat rfl'
    refine tells_someL' nn (by omega) fun z hz => ?_
    obtain ⟨i, rfl, hi⟩ := nz z hz
    repeat rfl'
    refine tells_someL' (by simp) (by simp) fun z hz => ?_
    obtain ⟨h, rfl, hh⟩ : ∃ h : Str, z = .str h ∧ h ∈ hows := by
      simp only [List.mem_cons, List.not_mem_nil, or_false] at hz
      rcases hz with rfl | rfl | rfl <;> exact ⟨_, rfl, by simp [hows]⟩
    repeat rfl'
    exact ⟨i, h, hi, hh, rfl⟩
  rintro _ ⟨i, h, hi, hh, rfl⟩
  let OkA : D → Prop := fun a => ∃ go, Ans a go ∧ ∀ p, go = some p → Small (12 + 3 * (j + 1 : Nat)) p.1 ∧ p.2 ∈ hows
  have okNo : ∀ {w : Str} {r : List D}, w ≠ "go" → OkA (.tup (.str w :: r)) := fun hw => ⟨none, .no hw, fun _ e => nomatch e⟩
  refine w_meet (fun G => ∃ l, l ≠ [] ∧ l.length ≤ 10 ∧ (∀ a ∈ l, OkA a) ∧ G = [y0, some .non, y2, some (.str n), some (drv n d g), some (drv n d g), y6, some (.lst nums), some (.int i), some (.str h), some (.lst l), y11, y12, y13]) ?_ ?_
  · repeat rfl'
    refine ⟨_, by simp, by simp, ?_, rfl⟩
    intro a hz
    simp only [List.mem_cons, List.not_mem_nil, or_false, List.cons_append, List.nil_append, List.flatten_cons, List.flatten_nil, List.replicate, Int.toNat] at hz
    rcases hz with rfl | rfl | rfl | rfl | rfl | rfl | rfl | rfl
    all_goals first
      | exact ⟨some (i, h), .go, fun p e => by cases e; exact ⟨hi, hh⟩⟩
      | exact okNo (by decide +kernel)
  rintro _ ⟨l, ln, ll, lz, rfl⟩
  refine w_meet (fun G => ∃ a, OkA a ∧ G = [y0, some .non, y2, some (.str n), some (drv n d g), some (drv n d g), y6, some (.lst nums), some (.int i), some (.str h), some (.lst l), some a, y12, y13]) ?_ ?_
  · repeat rfl'
    refine ⟨_, catL_ok (by simp; omega), ?_⟩
    refine w_nil (tells_someL' (by simp) (by simp; omega) fun a hz => ⟨a, ?_, rfl⟩)
    rcases List.mem_append.mp hz
            with hz | hz
    · exact lz a hz
    · rw [List.mem_singleton.mp
            hz]
      exact okNo (by decide +kernel)
  rintro _ ⟨a, ⟨go, ha, hgo⟩, rfl⟩
  have fin : ∀ {d' : Option Int} {g' : Option (Int × Str)} {G : Gam}, Bd (12 + 3 * (j + 1 : Nat)) d' g' → (∃ y6 y7 y8 y9 y10 y11 y12 y13, G = [y0, some .non, y2, some (.str n), some (drv n d' g'), some (drv n d' g'), y6, y7, y8, y9, y10, y11, y12, y13]) → Inv n y0 y2 (j + 1) G := fun b ⟨y6, y7, y8, y9, y10, y11, y12, y13, e⟩ => ⟨_, _, _, _, _, _, _, _, _, _, b, e⟩
  have up : ∀ {x : Int}, Small (12 + 3 * j) x → Small (12 + 3 * (j + 1 : Nat)) x := fun h => by unfold Small at h ⊢; omega
  have bd' : Bd (12 + 3 * (j + 1 : Nat)) d g := ⟨fun k e => up (bd.1 k e), fun p e => ⟨up (bd.2 p e).1, (bd.2 p e).2⟩⟩
  have bdh : Bd (12 + 3 * (j + 1 : Nat)) d (hearG d g go) := ⟨bd'.1, fun p e => by
    cases g with
    | some q => exact bd'.2 p (by cases e; rfl)
    | none =>
      cases go with
      | none => cases e
      | some q =>
        cases d with
        | none => exact hgo p (by cases e; rfl)
        | some k =>
          have e' : (if q.1 ≤ k then none else some q) = some p := e
          split at e' <;> cases e'
          exact hgo _ rfl⟩
  have rp : fRepr (drv n d g) = some (.str (PyData.shown (py (drv n d g)))) := nice_repr nd (by decide) (by decide)
  have other : Dn (sThen (sSet 12 (d1 fRepr (dVar 4)))
  (sThen (sSet 13 (dCall F_heard (dCons (dVar 4) (dCons (dVar 11) dNil))))
  (sThen (sIf (tAndD (asB (d1 fIsNone (d2 fIdx (dVar 5) (dC (.int 2))))) (tAndD (asB (d2 fEq (d2 fIdx (dVar 11) (dC (.int 0))) (dC (.str "go")))) (tOrD (asB (d1 fIsNone (d2 fIdx (dVar 5) (dC (.int 1))))) (asB (d2 fGt (d2 fIdx (dVar 11) (dC (.int 1))) (d2 fIdx (dVar 5) (dC (.int 1)))))))) (sSet 5 (dOp semTup (dCons (dVar 3) (dCons (d2 fIdx (dVar 5) (dC (.int 1))) (dCons (dOp semTup (dCons (d2 fIdx (dVar 11) (dC (.int 1))) (dCons (d2 fIdx (dVar 11) (dC (.int 2))) dNil))) dNil))))) sSkip)
  (sThen (sIf (tOrD (asB (d2 fNe (d1 fRepr (dVar 4)) (dVar 12))) (tNotD (asB (dCall F__law_alike (dCons (dCall F_heard (dCons (dVar 4) (dCons (dVar 11) dNil))) (dCons (dVar 13) dNil)))))) (sRet (dC (.bl false))) sSkip)
  (sSet 4 (dVar 13)))))) [y0, some .non, y2, some (.str n), some (drv n d g), some (drv n d g), y6, some (.lst nums), some (.int i), some (.str h), some (.lst l), some a, y12, y13] (Inv n y0 y2 (j + 1)) N (Inv n y0 y2 (j + 1)) (· = .bl true) := by
    rfl'
    rfl'
    rfl'
    rfl'
    refine ⟨_, rp, ?_⟩
    generalize hX : PyData.shown (py (drv n d g)) = Xd at rp
    rfl'
    rfl'
    rfl'
    rfl'
    rfl'
    rfl'
    rfl'
    rfl'
    refine (tells_heard ha).mono fun z ez => ?_
    subst ez
    refine w_meet (· = [y0, some .non, y2, some (.str n), some (drv n d g), some (drv n d (hearG d g go)), y6, some (.lst nums), some (.int i), some (.str h), some (.lst l), some a, some (.str Xd), some (drv n d (hearG d g go))]) ?_ ?_
    · cases g with
      | some q => repeat rfl'
      | none =>
        cases ha with
        | no hw =>
          repeat rfl'
          rw [decide_eq_false hw]
          repeat rfl'
        | @go i' h' =>
          cases d with
          | none => repeat rfl'
          | some k =>
            repeat rfl'
            have eh : hearG (some k) none (some (i', h')) = if i' ≤ k then none else some (i', h') := rfl
            refine ⟨fun hc => ?_, fun hc => ?_⟩
            · have hk := of_decide_eq_true hc
              rw [if_neg (by omega)] at eh
              rw [eh]
              repeat rfl'
            · have hk := of_decide_eq_false hc
              rw [if_pos (by omega)] at eh
              rw [eh]
              repeat rfl'
    rintro _ rfl
    refine w_meet (· = [y0, some .non, y2, some (.str n), some (drv n d g), some (drv n d (hearG d g go)), y6, some (.lst nums), some (.int i), some (.str h), some (.lst l), some a, some (.str Xd), some (drv n d (hearG d g go))]) ?_ ?_
    · rfl'
      refine w_or (w_B ?_)
      rfl'
      rfl'
      rfl'
      refine ⟨_, rp, ?_⟩
      rfl'
      refine ⟨_, fNe_strs _ _, _, rfl, ?_⟩
      rw [decide_eq_false (by simp)]
      refine and_f ?_
      repeat rfl'
      refine (tells_heard ha).mono fun z ez => ?_
      subst ez
      repeat rfl'
      refine tells_alike' ((nice_drv hn bdh (by omega)).mono (by decide) (by decide)) ?_
      repeat rfl'
    rintro _ rfl
    repeat rfl'
    exact fin bdh ⟨_, _, _, _, _, _, _, _, rfl⟩
  cases g with
  | none =>
    rfl'
    refine w_and ?_
    repeat (first | exact other | rfl')
  | some p =>
    rfl'
    refine w_and ?_
    repeat rfl'
    refine tells_take' (by decide) (by decide) fun r r0 r1 => ?_
    repeat rfl'
    refine ⟨fun hc => ?_, fun hc => ?_⟩
    · repeat rfl'
      refine tells_came.mono fun z ez => ?_
      subst ez
      repeat rfl'
      refine fin (d' := some p.1) (g' := none) ⟨fun k e => by cases e; exact (bd'.2 p rfl).1, fun _ e => nomatch e⟩ ⟨_, _, _, _, _, _, _, _, rfl⟩
    · exact other
theorem law_true : ∀ ns : List Int, ns.length ≤ 63 → ∃ B', B_law (gamL 14) (bag0 ns) = some (.rt (.bl true) B') := fun ns h => by
  have hd : Dn B_law (gamL 14) Nv Nv Nv (· = .bl true) := by
    unfold B_law
    rfl'
    refine w_each (fun G => ∃ y0 y2 y3 y4 y5 y6 y7 y8 y9 y10 y11 y12 y13, G = [y0, some .non, y2, y3, y4, y5, y6, y7, y8, y9, y10, y11, y12, y13]) ⟨_, _, _, _, _, _, _, _, _, _, _, _, _, rfl⟩ ?_ ?_
    · refine w_r1 (w_c ⟨4, rfl, by decide, ?_⟩)
      rintro t ht G ⟨y0, y2, y3, y4, y5, y6, y7, y8, y9, y10, y11, y12, y13, rfl⟩
      refine ⟨_, rfl, ?_⟩
      repeat rfl'
      refine tells_someL' (by simp) (by simp) ?_
      intro nm hnm
      obtain ⟨n, rfl, hn⟩ : ∃ n : Str, nm = .str n ∧ n ∈ (["a", "milltrain", "x"] : List Str) := by
        simp only [List.mem_cons, List.not_mem_nil, or_false] at hnm
        rcases hnm with rfl | rfl | rfl <;> exact ⟨_, rfl, by simp⟩
      repeat rfl'
      refine tells_first.mono fun d e => ?_
      subst e
      repeat rfl'
      refine w_for (w_r1 (w_c ⟨14, rfl, by decide, Inv n y0 (some t), ⟨none, none, _, _, _, _, _, _, _, _, ⟨(fun _ e => nomatch e), fun _ e => nomatch e⟩, rfl⟩, ?_, ?_⟩))
      · rintro j st G hj ⟨d, g, y6, y7, y8, y9, y10, y11, y12, y13, bd, rfl⟩
        have hj14 : j < 14 := by
          have := (List.getElem?_eq_some_iff.mp hj).1
          rw [rangeD_len] at this
          exact this
        refine ⟨_, rfl, ?_⟩
        exact does_turn hn hj14 bd
      · rintro G ⟨d, g, y6, y7, y8, y9, y10, y11, y12, y13, bd, rfl⟩
        exact ⟨_, _, _, _, _, _, _, _, _, _, _, _, _, rfl⟩
    · rintro G ⟨y0, y2, y3, y4, y5, y6, y7, y8, y9, y10, y11, y12, y13, rfl⟩
      repeat rfl'
  obtain ⟨o, e, q⟩ := hd (bag0 ns) (good0 h)
  rw [e]
  cases o with
  | nx G B => exact q.2.elim
  | rt d B => exact ⟨B, by rw [q.2]⟩
  | bk => exact q.2.elim
  | ct => exact q.2.elim
end Xk65
open PySem PySem.W
open PyProof.Rows
set_option maxHeartbeats 0 in
theorem PySem.Challenge.cw_staffhome_k65_drivers_and_what_they_hear_holds : PySem.Challenge.rw_staffhome_k65_drivers_and_what_they_hear.Holds := by
  w_on; o_law; k_head; (case hw => w_witness2); k_fill
  refine Xa.walk_G (l := PySem.Challenge.rw_staffhome_k65_drivers_and_what_they_hear) (n := 63) (k := 3) (x := "_law_script") rfl (by decide) rfl ⟨rfl, by decide, by decide⟩ (fun w h Y => PySem.W.kIn_of Y) ?F
  case F =>
    intro w mg fa h KX G hmg
    refine' Xk65.all_mk KX G hmg ?a1 ?l1 ?c1 ?k1 ?a2 ?l2 ?c2 ?k2 ?a3 ?l3 ?c3 ?k3 ?a4 ?l4 ?c4 ?k4 ?a5 ?l5 ?c5 ?k5 ?a6 ?l6 ?c6 ?k6 ?a7 ?l7 ?c7 ?k7 ?a8 ?l8 ?c8 ?k8 ?a9 ?l9 ?c9 ?k9 ?z_abs ?z_int ?z_len ?z_range ?z_repr Xk65.law_true
    (case a1 => k_is); (case l1 => k_is); (case c1 => k_is); (case k1 => k_is); (case a2 => k_is); (case l2 => k_is); (case c2 => k_is); (case k2 => k_is); (case a3 => k_is); (case l3 => k_is); (case c3 => k_is); (case k3 => k_is); (case a4 => k_is); (case l4 => k_is); (case c4 => k_is); (case k4 => k_is); (case a5 => k_is); (case l5 => k_is); (case c5 => k_is); (case k5 => k_is); (case a6 => k_is); (case l6 => k_is); (case c6 => k_is); (case k6 => k_is); (case a7 => k_is); (case l7 => k_is); (case c7 => k_is); (case k7 => k_is); (case a8 => k_is); (case l8 => k_is); (case c8 => k_is); (case k8 => k_is); (case a9 => k_is); (case l9 => k_is); (case c9 => k_is); (case k9 => k_is); (case z_abs => k_is); (case z_int => k_is); (case z_len => k_is); (case z_range => k_is); (case z_repr => k_is)
