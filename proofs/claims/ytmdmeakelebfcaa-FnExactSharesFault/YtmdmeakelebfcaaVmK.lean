/- A part of the proof of FnExactSharesFault: VmK. -/
import Derived.Test.YtmdmeakelebfcaaVmJ
namespace Go.VM
open Go.RowKit
/-- A piece of a function's code. -/
def codeAt : List Nat → Code → Code
  | [], c => c
  | i :: p, c => match c with
    | .seq x y => codeAt p (if i = 0 then x else y)
    | .cond _ x y => codeAt p (if i = 0 then x else y)
    | .block _ c => codeAt p c
    | .loop c => codeAt p c
    | _ => .skip
def bodyAt (fn : Func) (p : List Nat) : Code := match fn.body with | some c => codeAt p c | none => .skip
section
variable {cx : Cx} {β : Type}
/-- What follows behind a piece of code. -/
def contC (P : Program) (ev : Env cx) (lp : Lp cx β) : List Nat → Nat → Code → Kn cx β → Kn cx β
  | [], _, _, k => k
  | i :: p, bid, c, k => match c with
    | .seq x y => if i = 0 then contC P ev lp p bid x (seqK (evC P ev lp bid y) k) else contC P ev lp p bid y k
    | .cond _ x y => contC P ev lp p bid (if i = 0 then x else y) k
    | .block id c => contC P ev lp p id c (blkK id (ev.xv id) k)
    | .loop c => contC P ev lp p bid c k
    | _ => k

/-- The body of the loop in block 'id', at a place. -/
def bodyL (P : Program) (ev : Env cx) (L : Nat) (fn : Func) (id : Nat) (p : List Nat) : St cx.ty → Kn cx β → Option β := evC P ev (loopN L) id (bodyAt fn p)

/-- Rounds of a loop, from a plain state on: 'K': what follows where the block is left. -/
def headF (P : Program) (ev : Env cx) (L : Nat) (fn : Func) (id : Nat) (p : List Nat) (K : Kn cx β) (n : Nat) (st : St cx.ty) : Option β :=
  loopC (bodyL P ev L fn id p) (canon (ev.lv id)) (blkK id (ev.xv id) K) n st

def roundF (P : Program) (ev : Env cx) (L : Nat) (fn : Func) (id : Nat) (p : List Nat) (K : Kn cx β) (g : St cx.ty → Option β) (st : St cx.ty) : Option β :=
  bodyL P ev L fn id p st (seqK (fun st' _ => g (canon (ev.lv id) st')) (blkK id (ev.xv id) K))

theorem headF_round (P : Program) (ev : Env cx) (L : Nat) (fn : Func) (id : Nat) (p : List Nat) (K : Kn cx β) (n : Nat) (st : St cx.ty) :
    headF P ev L fn id p K (n + 1) st = roundF P ev L fn id p K (headF P ev L fn id p K n) st := rfl

/-- What follows a block at a place of the function: 'fin': what is handed back. -/
def topK (P : Program) (ev : Env cx) (L : Nat) (fn : Func) (p : List Nat) (fin : St cx.ty → Option β) : Kn cx β := contC P ev (loopN L) p 0 (bodyAt fn []) { n := fin, x := fun _ _ => none, r := fin }

/-- What follows a block within the body (at 'q') of the loop 'id', at a place 'p' of that body. -/
def inK (P : Program) (ev : Env cx) (L : Nat) (fn : Func) (id : Nat) (q p : List Nat) (K : Kn cx β) (g : St cx.ty → Option β) : Kn cx β :=
  contC P ev (loopN L) p id (bodyAt fn q) (seqK (fun st' _ => g (canon (ev.lv id) st')) (blkK id (ev.xv id) K))

def outK (fin : St cx.ty → Option β) (k : St cx.ty → Option β) (x : Nat → St cx.ty → Option β) : Kn cx β := { n := k, x := x, r := fin }
end
end Go.VM
