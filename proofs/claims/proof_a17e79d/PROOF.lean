import PyProof.Rows.All
import Wide.All
import OpenK.AllK
import Wide.FinOn
import PyProof.EqAt
import PyProof.EqKinds
import PyProof.TupleCall
import KE.BitLaws
import Open.SpecLaws
import KE.OsHead
import KE.OsGo
import PyFlatLaws
import PySem.Challenge.RW_breakersyard_s01_answers
set_option Elab.async false
set_option linter.all false
set_option maxRecDepth 100000
set_option maxHeartbeats 2000000
set_option hygiene false
local macro_rules | `(tactic| k_head) => `(tactic| k_headS)
local macro_rules | `(tactic| w_witness2) => `(tactic| exact ⟨[.list [.int 0]], by decide +kernel, by decide +kernel⟩)
set_option hygiene true
local macro_rules | `(command| init_quot) => do
  let f (n : Lean.Name) := `(command| theorem $(Lean.mkIdent ((`PySem.W.Fast).str s!"tw{n.hash}")) : True := trivial)
  let c ← (["heap_1", "view_1", "env_3"] ++ [11, 91, 114, 137, 160, 216, 266, 348, 430, 438, 475, 550, 608].map (s!"sts_{·}") ++ (List.range 660).map (s!"o_{·}")).mapM fun x => f ((`Y58.hd).str x)
  return Lean.mkNullNode ((← f `PySem.Challenge.pw_breakersyard_s01_answers) :: c).toArray
init_quot
namespace Y58
open PySem PySem.W PyProof.Rows
set_option maxHeartbeats 0 in
open_top hd for PySem.Challenge.rw_breakersyard_s01_answers
end Y58
namespace Y58
open Km415
theorem foldl_add (l:List Nat):∀a:Nat,l.foldl (·+·) a=a+l.foldl (·+·) 0:=by
 induction l with
 | nil=>intro a;rfl
 | cons x l ih=>intro a;simp only [List.foldl_cons];rw [ih (a+x),ih (0+x)];omega
theorem sum_nil:Km415.sum []=0:=rfl
theorem sum_cons (x:Nat) (l:List Nat):Km415.sum (x::l)=x+Km415.sum l:=by
 unfold Km415.sum;rw [List.foldl_cons,foldl_add];omega
theorem sum_append (l m:List Nat):Km415.sum (l++m)=Km415.sum l+Km415.sum m:=by
 induction l with
 | nil=>rw [List.nil_append,sum_nil,Nat.zero_add]
 | cons x l ih=>rw [List.cons_append,sum_cons,sum_cons,ih,Nat.add_assoc]
theorem sum_int:∀l:List Nat,(l.map fun (n:Nat)=>(n:Int)).sum=((Km415.sum l:Nat):Int)
 | []=>rfl
 | x::l=>by rw [List.map_cons,List.sum_cons,sum_int l,sum_cons];omega
theorem testBit_fold (l:List Nat):∀(w t:Nat),(l.foldl (fun w k=>w ||| 2^k) w).testBit t=(w.testBit t||l.contains t):=by
 induction l with
 | nil=>intro w t;simp
 | cons k l ih =>
  intro w t
  rw [List.foldl_cons,ih,Nat.testBit_or,Nat.testBit_two_pow]
  by_cases h:k=t
  ·subst h;simp
  ·have h2:¬ t=k:=fun e=>h e.symm
   simp [h,h2]
theorem testBit_bitsOf (l:List Nat) (t:Nat):(bitsOf l).testBit t=l.contains t:=by
 unfold bitsOf;rw [testBit_fold];simp
theorem mem_kinds {n b t:Nat}:t∈kinds n b↔t < n∧b.testBit t=true:=by
 unfold kinds;simp [List.mem_filter,List.mem_range]
theorem contains_iff {l:List Nat} {t:Nat}:l.contains t=true↔t∈l:=by simp
theorem lt_of_testBit {n b:Nat} (h:b < 2^n) {t:Nat} (ht:b.testBit t=true):t < n:=by
 apply Classical.byContradiction
 intro hn
 have:b < 2^t:=Nat.lt_of_lt_of_le h (Nat.pow_le_pow_right (by decide) (by omega))
 rw [Nat.testBit_lt_two_pow this] at ht
 exact Bool.noConfusion ht
theorem bitsOf_kinds {n b:Nat} (h:b < 2^n):bitsOf (kinds n b)=b:=by
 apply Nat.eq_of_testBit_eq
 intro t
 rw [testBit_bitsOf,Bool.eq_iff_iff,contains_iff,mem_kinds]
 exact ⟨fun q=>q.2,fun q=>⟨lt_of_testBit h q,q⟩⟩
theorem bitsOf_lt {n:Nat} {l:List Nat} (h:∀t∈l,t < n):bitsOf l < 2^n:=by
 apply Nat.lt_pow_two_of_testBit
 intro i hi
 rw [testBit_bitsOf]
 apply Bool.eq_false_iff.mpr
 intro q
 have:=h i (contains_iff.mp q)
 omega
theorem bitsOf_filter_kinds {k a h:Nat} (ha:a < 2^k):bitsOf ((kinds k a).filter fun u=>h.testBit u)=a &&& h:=by
 apply Nat.eq_of_testBit_eq
 intro t
 rw [testBit_bitsOf,Nat.testBit_and,Bool.eq_iff_iff,contains_iff,List.mem_filter,mem_kinds,Bool.and_eq_true]
 exact ⟨fun q=>⟨q.1.2,q.2⟩,fun q=>⟨⟨lt_of_testBit ha q.1,q.1⟩,q.2⟩⟩
theorem kinds_more {n m b:Nat} (h:b < 2^n) (hm:n≤m):kinds m b=kinds n b:=by
 obtain ⟨d,rfl⟩:∃d,m=n+d:=⟨m - n,by omega⟩
 clear hm
 induction d with
 | zero=>rfl
 | succ d ih =>
  rw [←ih]
  unfold kinds
  rw [show n+(d+1)=(n+d)+1 from by omega,List.range_succ,List.filter_append]
  have:b.testBit (n+d)=false:=by
   apply Bool.eq_false_iff.mpr
   intro q
   have:=lt_of_testBit h q
   omega
  simp [this]
theorem kinds_log {b:Nat} {m:Nat} (h:b < 2^m):kinds (if b=0 then 0 else b.log2+1) b=kinds m b:=by
 by_cases h0:b=0
 ·subst h0;simp [kinds]
 ·rw [if_neg h0]
  have hlt:b < 2^(b.log2+1):=Nat.lt_log2_self
  by_cases hm:b.log2+1≤m
  ·exact (kinds_more hlt hm).symm
  ·exact kinds_more h (by omega)
theorem kinds_length_le (n b:Nat):(kinds n b).length≤n:=by
 unfold kinds;have:=List.length_filter_le (fun t=>b.testBit t) (List.range n);simpa using this
theorem less_and (m:Nat):∀n:Nat,(m ^^^ (m &&& n))+(m &&& n)=m:=by
 induction m using Nat.strongRecOn with
 | _ m ih =>
  intro n
  by_cases h0:m=0
  ·subst h0;simp
  ·have q:=ih (m / 2) (by omega) (n / 2)
   rw [←Nat.and_div_two,←Nat.xor_div_two] at q
   have o1:=@Nat.xor_mod_two_eq_one m (m &&& n)
   have a1:=@Nat.and_mod_two_eq_one m n
   omega
theorem bitsOf_without {n h b:Nat} (hh:h < 2^n):bitsOf ((kinds n h).filter fun t=>!((kinds n b).contains t))=h - (h &&& b):=by
 have key:bitsOf ((kinds n h).filter fun t=>!((kinds n b).contains t))=h ^^^ (h &&& b):=by
  apply Nat.eq_of_testBit_eq
  intro t
  rw [testBit_bitsOf,Nat.testBit_xor,Nat.testBit_and]
  cases hb:h.testBit t with
  | false =>
   simp only [Bool.false_and,Bool.xor_false]
   apply Bool.eq_false_iff.mpr
   intro q
   have:=(List.mem_filter.mp (contains_iff.mp q)).1
   rw [(mem_kinds.mp this).2] at hb
   cases hb
  | true =>
   have ht:=lt_of_testBit hh hb
   cases hc:b.testBit t with
   | false =>
    simp only [Bool.and_false,Bool.xor_false]
    apply contains_iff.mpr
    refine List.mem_filter.mpr ⟨mem_kinds.mpr ⟨ht,hb⟩,?_⟩
    rw [Bool.not_eq_true']
    apply Bool.eq_false_iff.mpr
    intro q
    rw [(mem_kinds.mp (contains_iff.mp q)).2] at hc
    cases hc
   | true =>
    simp only [Bool.and_true,Bool.bne_true,Bool.not_true]
    apply Bool.eq_false_iff.mpr
    intro q
    have:=(List.mem_filter.mp (contains_iff.mp q)).2
    rw [Bool.not_eq_true'] at this
    rw [contains_iff.mpr (mem_kinds.mpr ⟨ht,hc⟩)] at this
    cases this
 rw [key]
 have:=less_and h b
 omega
theorem all_less (n b:Nat) (hb:b < 2^n):2^n - 1 - b=(2^n - 1) - ((2^n - 1) &&& b):=by
 have:(2^n - 1) &&& b=b:=by
  rw [Nat.and_comm,Nat.and_two_pow_sub_one_eq_mod,Nat.mod_eq_of_lt hb]
 rw [this]
theorem all_off {n a h:Nat} (ha:a < 2^n):((kinds n a).all fun u=>!h.testBit u)=decide (a &&& h=0):=by
 rw [Bool.eq_iff_iff,List.all_eq_true,decide_eq_true_iff]
 constructor
 ·intro q
  apply Nat.eq_of_testBit_eq
  intro t
  rw [Nat.testBit_and,Nat.zero_testBit]
  apply Bool.eq_false_iff.mpr
  intro z
  rw [Bool.and_eq_true] at z
  have:=q t (mem_kinds.mpr ⟨lt_of_testBit ha z.1,z.1⟩)
  rw [z.2] at this
  cases this
 ·intro q t ht
  have z:(a &&& h).testBit t=false:=by rw [q,Nat.zero_testBit]
  rw [Nat.testBit_and,(mem_kinds.mp ht).2,Bool.true_and] at z
  rw [z];rfl
end Y58
namespace Y58
open Km415
def mustN (needs:Nat→Nat) (has:Nat):Nat→Nat→Nat
 | 0,b=>b
 | k+1,b=>mustN needs has k (if b.testBit k=true then b ||| (needs k &&& has) else b)
theorem closed_eq (y:Yard) (c:Car) (hn:∀k,y.needsOf k < 2^k):∀n b,y.closed c n b=mustN y.needsOf c.has n b
 | 0,_=>rfl
 | n+1,b=>by
  show y.closed c n (if b.testBit n=true then b ||| bitsOf ((kinds n (y.needsOf n)).filter fun u=>c.has.testBit u) else b)=_
  rw [bitsOf_filter_kinds (hn n),closed_eq y c hn n]
  rfl
theorem mustN_more {needs:Nat→Nat} {has n:Nat} (h0:∀k,n≤k→needs k=0):∀(d b:Nat),mustN needs has (n+d) b=mustN needs has n b
 | 0,_=>rfl
 | d+1,b=>by
  show mustN needs has (n+d) (if b.testBit (n+d)=true then b ||| (needs (n+d) &&& has) else b)=_
  rw [h0 (n+d) (by omega),Nat.zero_and,Nat.or_zero]
  have e:(if b.testBit (n+d)=true then b else b)=b:=by split <;> rfl
  rw [e,mustN_more h0 d]
theorem mustN_lt {needs:Nat→Nat} {has m:Nat} (hh:has < 2^m):∀(n b:Nat),b < 2^m→mustN needs has n b < 2^m
 | 0,_,h=>h
 | n+1,b,h=>by
  refine mustN_lt hh n _ ?_
  split
  ·exact Nat.or_lt_two_pow h (Nat.lt_of_le_of_lt Nat.and_le_right hh)
  ·exact h
theorem mustN_sub {needs:Nat→Nat} {has t:Nat}:∀(n b:Nat),(mustN needs has n b).testBit t=true→b.testBit t=true∨has.testBit t=true
 | 0,_,h=>.inl h
 | n+1,b,h=>by
  rcases mustN_sub n _ h with q | q
  ·split at q
   ·rw [Nat.testBit_or,Bool.or_eq_true,Nat.testBit_and,Bool.and_eq_true] at q
    rcases q with q | q
    ·exact .inl q
    ·exact .inr q.2
   ·exact .inl q
  ·exact .inr q
section
variable {α:Type}
def frees (n:Nat) (s:List (Option α)):List Nat:=(List.range n).filter fun i=>(s.getD i none).isNone
theorem mem_frees {n i:Nat} {s:List (Option α)}:i∈frees n s↔i < n∧s.getD i none=none:=by
 unfold frees;simp [List.mem_filter,List.mem_range]
theorem frees_nodup (n:Nat) (s:List (Option α)):(frees n s).Nodup:=List.Pairwise.filter _ List.nodup_range
theorem frees_sorted (n:Nat) (s:List (Option α)):(frees n s).Pairwise (· < ·):=List.Pairwise.filter _ List.pairwise_lt_range
theorem getD_set (s:List (Option α)) (i j:Nat) (v:Option α) (hi:i < s.length):(s.set i v).getD j none=if j=i then v else s.getD j none:=by
 rw [List.getD_eq_getElem?_getD,List.getD_eq_getElem?_getD,List.getElem?_set]
 by_cases h:i=j
 ·subst h;simp [hi]
 ·rw [if_neg h,if_neg (fun e=>h e.symm)]
theorem frees_set {n i:Nat} {r:List Nat} {s:List (Option α)} {p:α} (h:frees n s=i::r) (hi:i < s.length):frees n (s.set i (some p))=r:=by
 have e:frees n (s.set i (some p))=(frees n s).filter fun j=>decide (j≠i):=by
  unfold frees
  rw [List.filter_filter]
  apply List.filter_congr
  intro j _
  rw [getD_set s i j (some p) hi]
  by_cases q:j=i
  ·simp [q]
  ·simp [q]
 have nd:=frees_nodup n s
 rw [h] at nd e
 rw [e,List.filter_cons]
 have hm:i ∉ r:=(List.nodup_cons.mp nd).1
 simp only [ne_eq,not_true_eq_false,decide_false,Bool.false_eq_true,if_false]
 apply List.filter_eq_self.mpr
 intro j hj
 simp
 intro q
 exact hm (q ▸ hj)
theorem frees_head {n i:Nat} {r:List Nat} {s:List (Option α)} (h:frees n s=i::r) (hs:s.length=n):s[i]?=some none∧i < n∧∀j,j < i→∃p,s[j]?=some (some p):=by
 have hm:i∈frees n s:=by rw [h];simp
 have him:=mem_frees.mp hm
 have hi:i < s.length:=by omega
 refine ⟨?_,him.1,fun j hj=>?_⟩
 ·have:=him.2
  rw [List.getD_eq_getElem?_getD,List.getElem?_eq_getElem hi] at this
  rw [List.getElem?_eq_getElem hi]
  simpa using this
 ·have hjl:j < s.length:=by omega
  rw [List.getElem?_eq_getElem hjl]
  cases q:s[j] with
  | some p=>exact ⟨p,rfl⟩
  | none =>
   exfalso
   have hjm:j∈frees n s:=mem_frees.mpr ⟨by omega,by rw [List.getD_eq_getElem?_getD,List.getElem?_eq_getElem hjl];simpa using q⟩
   have so:=frees_sorted n s
   rw [h] at so hjm
   rcases List.mem_cons.mp hjm with e | e
   ·omega
   ·have:=(List.pairwise_cons.mp so).1 j e
    omega
theorem frees_length {n:Nat} {s:List (Option α)} (hs:s.length=n):(frees n s).length=(s.filter fun x=>x.isNone).length:=by
 subst hs
 unfold frees
 induction s with
 | nil=>rfl
 | cons a s ih =>
  rw [List.length_cons,List.range_succ_eq_map,List.filter_cons,List.filter_cons]
  have e:((List.map Nat.succ (List.range s.length)).filter fun i=>((a::s).getD i none).isNone).length=((List.range s.length).filter fun i=>(s.getD i none).isNone).length:=by
   rw [List.filter_map,List.length_map]
   rfl
  cases a with
  | none=>simp only [List.getD_cons_zero,Option.isNone_none,if_true,List.length_cons];rw [e,ih]
  | some p=>simp only [List.getD_cons_zero,Option.isNone_some,Bool.false_eq_true,if_false];rw [e,ih]
end
theorem store_cons {s:List (Option Part)} {i:Nat} {r:List Nat} {p:Part} {ps:List Part} (h:frees 30 s=i::r) (hs:s.length=30) :
  store s ((frees 30 s).zip (p::ps))=store (s.set i (some p)) ((frees 30 (s.set i (some p))).zip ps):=by
 have hi:i < s.length:=by rw [hs];exact (frees_head h hs).2.1
 rw [frees_set h hi,h]
 rfl
theorem store_length:∀(l:List (Nat×Part)) (s:List (Option Part)),(store s l).length=s.length
 | [],_=>rfl
 | (i,p)::l,s=>by
  show (store (s.set i (some p)) l).length=_
  rw [store_length l,List.length_set]
def place1 (s:List (Option Part)) (p:Part):List (Option Part):=match frees 30 s with
 | []=>s
 | i::_=>s.set i (some p)
theorem place1_eq {s:List (Option Part)} {i:Nat} {r:List Nat} (p:Part) (h:frees 30 s=i::r):place1 s p=s.set i (some p):=by unfold place1;rw [h]
theorem place1_len (s:List (Option Part)) (p:Part):(place1 s p).length=s.length:=by
 unfold place1
 split
 ·rfl
 ·rw [List.length_set]
theorem place1_frees {s:List (Option Part)} {i:Nat} {r:List Nat} (p:Part) (h:frees 30 s=i::r) (hs:s.length=30):frees 30 (place1 s p)=r:=by
 rw [place1_eq p h]
 exact frees_set h (by rw [hs];exact (frees_head h hs).2.1)
theorem store_fold:∀(ps:List Part) (s:List (Option Part)),s.length=30→ps.length≤(frees 30 s).length→store s ((frees 30 s).zip ps)=ps.foldl place1 s
 | [],s,_,_=>by rw [List.zip_nil_right];rfl
 | p::ps,s,hs,hl=>by
  cases h:frees 30 s with
  | nil=>rw [h] at hl;simp at hl
  | cons i r =>
   rw [←h,store_cons h hs,←place1_eq p h,List.foldl_cons]
   refine store_fold ps _ (by rw [place1_len];exact hs) ?_
   rw [place1_frees p h hs]
   rw [h] at hl
   simpa using hl
theorem fold_frees:∀(ps:List Part) (s:List (Option Part)),s.length=30→ps.length≤(frees 30 s).length→(frees 30 (ps.foldl place1 s)).length+ps.length=(frees 30 s).length∧(ps.foldl place1 s).length=30
 | [],s,hs,_=>⟨rfl,hs⟩
 | p::ps,s,hs,hl=>by
  cases h:frees 30 s with
  | nil=>rw [h] at hl;simp at hl
  | cons i r =>
   have e:=place1_frees p h hs
   rw [h] at hl
   have q:=fold_frees ps (place1 s p) (by rw [place1_len];exact hs) (by rw [e];simpa using hl)
   rw [e] at q
   rw [List.foldl_cons,List.length_cons,List.length_cons]
   exact ⟨by omega,q.2⟩
def longer (ws:List (List Nat)) (cs:List Nat):List (List Nat):=ws.flatMap fun w=>cs.map fun k=>w++[k]
def prod (f:Nat→List Nat):List Nat→List (List Nat)
 | []=>[[]]
 | t::l=>(f t).flatMap fun k=>(prod f l).map fun w=>k::w
theorem longer_all (f:Nat→List Nat):∀(L:List Nat) (ws:List (List Nat)),L.foldl (fun ws t=>longer ws (f t)) ws=ws.flatMap fun w=>(prod f L).map fun v=>w++v
 | [],ws=>by
  show ws=ws.flatMap fun w=>[w++[]]
  induction ws with
  | nil=>rfl
  | cons w ws ih=>rw [List.flatMap_cons,←ih];simp
 | t::L,ws=>by
  rw [List.foldl_cons,longer_all f L]
  unfold longer
  rw [List.flatMap_assoc]
  congr 1
  funext w
  show (List.map (fun k=>w++[k]) (f t)).flatMap _=((f t).flatMap fun k=>(prod f L).map fun v=>k::v).map _
  rw [List.flatMap_map,List.map_flatMap]
  congr 1
  funext k
  rw [List.map_map]
  congr 1
  funext v
  simp
theorem allWays_eq (f:Nat→List Nat) (L:List Nat):L.foldl (fun ws t=>longer ws (f t)) [[]]=prod f L:=by
 rw [longer_all];simp
theorem ways_eq (y:Yard) (m:Nat):∀L:List Nat,y.ways m L=(prod (fun t=>y.from_ t m) L).map fun w=>L.zip w
 | []=>rfl
 | t::L=>by
  show (y.from_ t m).flatMap (fun k=>(y.ways m L).map fun w=>(t,k)::w)=((y.from_ t m).flatMap fun k=>(prod _ L).map fun w=>k::w).map _
  rw [List.map_flatMap]
  congr 1
  funext k
  rw [ways_eq y m L,List.map_map,List.map_map]
  rfl
theorem prod_length {f:Nat→List Nat}:∀{L w:List Nat},w∈prod f L→w.length=L.length
 | [],w,h=>by
  have:w=[]:=by simpa [prod] using h
  subst this;rfl
 | t::L,w,h=>by
  obtain ⟨k,_,h⟩:=List.mem_flatMap.mp h
  obtain ⟨v,hv,rfl⟩:=List.mem_map.mp h
  rw [List.length_cons,List.length_cons,prod_length hv]
theorem prod_mem {f:Nat→List Nat}:∀{L w:List Nat},w∈prod f L→∀p∈L.zip w,p.2∈f p.1
 | [],w,_,p,hp=>by simp at hp
 | t::L,w,h,p,hp=>by
  obtain ⟨k,hk,h⟩:=List.mem_flatMap.mp h
  obtain ⟨v,hv,rfl⟩:=List.mem_map.mp h
  rw [List.zip_cons_cons] at hp
  rcases List.mem_cons.mp hp with rfl | hp
  ·exact hk
  ·exact prod_mem hv p hp
def wantOf (w:List (Nat×Nat)) (k:Nat):Nat:=bitsOf ((w.filter fun p=>p.2==k).map fun p=>p.1)
def carsOf (w:List (Nat×Nat)):List Nat:=w.foldl (fun ks p=>if ks.contains p.2 then ks else ks++[p.2]) []
theorem carsOf_snoc (w:List (Nat×Nat)) (p:Nat×Nat):carsOf (w++[p])=if (carsOf w).contains p.2 then carsOf w else carsOf w++[p.2]:=by
 unfold carsOf;rw [List.foldl_append];rfl
theorem mem_fold (w:List (Nat×Nat)):∀(ks:List Nat) (k:Nat),k∈w.foldl (fun ks p=>if ks.contains p.2 then ks else ks++[p.2]) ks↔k∈ks∨∃p∈w,p.2=k:=by
 induction w with
 | nil=>intro ks k;simp
 | cons p w ih =>
  intro ks k
  rw [List.foldl_cons,ih]
  by_cases h:ks.contains p.2
  ·rw [if_pos h]
   have:=contains_iff.mp h
   constructor
   ·rintro (q | ⟨x,hx,e⟩)
    ·exact .inl q
    ·exact .inr ⟨x,by simp [hx],e⟩
   ·rintro (q | ⟨x,hx,e⟩)
    ·exact .inl q
    ·rcases List.mem_cons.mp hx with rfl | hx
     ·exact .inl (e ▸ this)
     ·exact .inr ⟨x,hx,e⟩
  ·rw [if_neg h]
   constructor
   ·rintro (q | ⟨x,hx,e⟩)
    ·rcases List.mem_append.mp q with q | q
     ·exact .inl q
     ·exact .inr ⟨p,by simp,(List.mem_singleton.mp q).symm⟩
    ·exact .inr ⟨x,by simp [hx],e⟩
   ·rintro (q | ⟨x,hx,e⟩)
    ·exact .inl (by simp [q])
    ·rcases List.mem_cons.mp hx with rfl | hx
     ·exact .inl (by simp [e])
     ·exact .inr ⟨x,hx,e⟩
theorem mem_carsOf {w:List (Nat×Nat)} {k:Nat}:k∈carsOf w↔∃p∈w,p.2=k:=by
 unfold carsOf;rw [mem_fold];simp
theorem any_carsOf (w:List (Nat×Nat)) (k:Nat):(w.any fun p=>p.2==k)=(carsOf w).contains k:=by
 rw [Bool.eq_iff_iff,List.any_eq_true,contains_iff,mem_carsOf]
 simp
theorem carsOf_nodup (w:List (Nat×Nat)):(carsOf w).Nodup:=by
 have:∀(w:List (Nat×Nat)) (ks:List Nat),ks.Nodup→(w.foldl (fun ks p=>if ks.contains p.2 then ks else ks++[p.2]) ks).Nodup:=by
  intro w
  induction w with
  | nil=>intro ks h;exact h
  | cons p w ih =>
   intro ks h
   rw [List.foldl_cons]
   apply ih
   by_cases q:ks.contains p.2
   ·rw [if_pos q];exact h
   ·rw [if_neg q,List.nodup_append]
    refine ⟨h,by simp,?_⟩
    intro a ha b hb e
    have:b=p.2:=by simpa using hb
    subst this
    subst e
    exact q (contains_iff.mpr ha)
 exact this w [] (by simp)
theorem wantOf_snoc (w:List (Nat×Nat)) (t k j:Nat):wantOf (w++[(t,k)]) j=if k=j then wantOf w j ||| 2^t else wantOf w j:=by
 unfold wantOf
 rw [List.filter_append,List.map_append]
 by_cases h:k=j
 ·subst h
  rw [if_pos rfl]
  simp only [List.filter_cons,beq_self_eq_true,if_true,List.filter_nil,List.map_cons,List.map_nil]
  unfold bitsOf
  rw [List.foldl_append]
  rfl
 ·rw [if_neg h]
  have:(k==j)=false:=by simpa using h
  simp [this]
theorem wantOf_none {w:List (Nat×Nat)} {k:Nat} (h:k ∉ carsOf w):wantOf w k=0:=by
 unfold wantOf
 have:(w.filter fun p=>p.2==k)=[]:=by
  apply List.filter_eq_nil_iff.mpr
  intro p hp q
  exact h (mem_carsOf.mpr ⟨p,hp,by simpa using q⟩)
 rw [this];rfl
theorem sum_map_add (f g:Nat→Nat):∀l:List Nat,Km415.sum (l.map fun k=>f k+g k)=Km415.sum (l.map f)+Km415.sum (l.map g)
 | []=>rfl
 | a::l=>by simp only [List.map_cons,sum_cons];rw [sum_map_add f g l];omega
theorem sum_one {f:Nat→Nat} {a:Nat}:∀{n:Nat},a < n→Km415.sum ((List.range n).map fun k=>if k=a then f k else 0)=f a
 | 0,h=>by omega
 | n+1,h=>by
  rw [List.range_succ,List.map_append,sum_append]
  show _+Km415.sum [if n=a then f n else 0]=_
  rw [sum_cons,sum_nil]
  by_cases e:n=a
  ·subst e
   have:Km415.sum ((List.range n).map fun k=>if k=n then f k else 0)=0:=by
    have e2:((List.range n).map fun k=>if k=n then f k else 0)=(List.range n).map fun _=>0:=by
     apply List.map_congr_left
     intro k hk
     have:=List.mem_range.mp hk
     rw [if_neg (by omega)]
    rw [e2]
    clear e2 h
    induction n with
    | zero=>rfl
    | succ n ih=>rw [List.range_succ,List.map_append,sum_append,ih];rfl
   rw [this,if_pos rfl];omega
  ·rw [sum_one (by omega),if_neg e];omega
theorem sum_over {f:Nat→Nat} {n:Nat}:∀{ks:List Nat},ks.Nodup→(∀k∈ks,k < n)→Km415.sum ((List.range n).map fun k=>if ks.contains k=true then f k else 0)=Km415.sum (ks.map f)
 | [],_,_=>by
  show Km415.sum ((List.range n).map fun _=>0)=0
  induction n with
  | zero=>rfl
  | succ n ih=>rw [List.range_succ,List.map_append,sum_append,ih (by simp)];rfl
 | a::ks,nd,hk=>by
  have nd':=List.nodup_cons.mp nd
  rw [List.map_cons,sum_cons,←sum_over nd'.2 fun k h=>hk k (by simp [h]),←sum_one (f:=f) (hk a (by simp)),←sum_map_add]
  congr 1
  apply List.map_congr_left
  intro k _
  by_cases e:k=a
  ·subst e
   have:ks.contains k=false:=by
    apply Bool.eq_false_iff.mpr
    intro q
    exact nd'.1 (contains_iff.mp q)
   rw [this];simp
  ·have:(a::ks).contains k=ks.contains k:=by simp [e]
   rw [this,if_neg e];simp
def Yd.tk (y:Yard) (w:List (Nat×Nat)) (k:Nat):Nat:=match y.cars[k]? with
 | some c=>y.time c (wantOf w k)
 | none=>0
theorem cost_eq (y:Yard) (w:List (Nat×Nat)) (h:∀p∈w,p.2 < y.cars.length):y.cost w=Km415.sum ((carsOf w).map (Yd.tk y w)):=by
 rw [←sum_over (n:=y.cars.length) (carsOf_nodup w) (fun k hk=>by obtain ⟨p,hp,rfl⟩:=mem_carsOf.mp hk;exact h p hp)]
 unfold Yard.cost
 congr 1
 apply List.map_congr_left
 intro k hk
 unfold Yd.tk wantOf
 rw [←any_carsOf]
 have:=List.mem_range.mp hk
 rw [List.getElem?_eq_getElem this]
def Yd.np (y:Yard) (w:List (Nat×Nat)) (k:Nat):Nat:=match y.cars[k]? with
 | some c=>(y.off c (wantOf w k)).length
 | none=>0
theorem pieces_eq (y:Yard) (w:List (Nat×Nat)) (h:∀p∈w,p.2 < y.cars.length):y.pieces w=Km415.sum ((carsOf w).map (Yd.np y w)):=by
 rw [←sum_over (n:=y.cars.length) (carsOf_nodup w) (fun k hk=>by obtain ⟨p,hp,rfl⟩:=mem_carsOf.mp hk;exact h p hp)]
 unfold Yard.pieces
 congr 1
 apply List.map_congr_left
 intro k hk
 unfold Yd.np wantOf
 rw [←any_carsOf]
 have:=List.mem_range.mp hk
 rw [List.getElem?_eq_getElem this]
def Yd.give (y:Yard) (w:List (Nat×Nat)) (z:Yard) (k:Nat):Yard:=match y.cars[k]? with
 | some c=>z.takes k c (y.off c (wantOf w k))
 | none=>z
theorem gathered_eq (y:Yard) (w:List (Nat×Nat)):y.gathered w=((List.range y.cars.length).filter fun k=>(carsOf w).contains k).foldl (Yd.give y w) y:=by
 unfold Yard.gathered
 rw [List.foldl_filter]
 congr 1
 funext z k
 rw [any_carsOf]
 unfold Yd.give wantOf
 cases y.cars[k]? with
 | none=>simp
 | some c=>rfl
def Best {α:Type} (f:α→Nat) (pre:List α):Option (Nat×α)→Prop
 | none=>pre=[]
 | some q=>q.1=f q.2∧∃i:Nat,pre[i]?=some q.2∧(∀(j:Nat) x,pre[j]?=some x→f q.2≤f x)∧(∀(j:Nat) x,j < i→pre[j]?=some x→f q.2 < f x)
theorem least_fold {α:Type} {f:α→Nat} {st:Option (Nat×α)→α→Option (Nat×α)} (s0:∀w,st none w=some (f w,w)) (s1:∀v u w,st (some (v,u)) w=if f w < v then some (f w,w) else some (v,u)) :
  ∀(ws pre:List α) (r:Option (Nat×α)),Best f pre r→Best f (pre++ws) (ws.foldl st r):=by
 intro ws
 induction ws with
 | nil=>intro pre r h;simpa using h
 | cons w ws ih =>
  intro pre r h
  have e:pre++w::ws=(pre++[w])++ws:=by simp
  rw [e,List.foldl_cons]
  apply ih
  cases r with
  | none =>
   have h':pre=[]:=h
   subst h'
   rw [s0]
   refine ⟨rfl,0,rfl,?_,?_⟩
   ·intro j x hx
    cases j with
    | zero=>have:=Option.some.inj hx;subst this;exact Nat.le_refl _
    | succ j=>simp at hx
   ·intro j x hj;omega
  | some q =>
   obtain ⟨v,u⟩:=q
   obtain ⟨hv,i,hi,h1,h2⟩:=h
   have hv:v=f u:=hv
   subst hv
   have hil:i < pre.length:=(List.getElem?_eq_some_iff.mp hi).1
   have split:∀(j:Nat) x,(pre++[w])[j]?=some x→pre[j]?=some x∨(j=pre.length∧x=w):=by
    intro j x hx
    rcases Nat.lt_trichotomy j pre.length with q | q | q
    ·rw [List.getElem?_append_left q] at hx;exact .inl hx
    ·subst q
     rw [List.getElem?_append_right (Nat.le_refl _),Nat.sub_self] at hx
     exact .inr ⟨rfl,(Option.some.inj hx).symm⟩
    ·exfalso
     have:=(List.getElem?_eq_some_iff.mp hx).1
     simp at this
     omega
   have h1':∀(j:Nat) x,pre[j]?=some x→f u≤f x:=h1
   have h2':∀(j:Nat) x,j < i→pre[j]?=some x→f u < f x:=h2
   rw [s1]
   by_cases c:f w < f u
   ·rw [if_pos c]
    refine ⟨rfl,pre.length,by rw [List.getElem?_append_right (Nat.le_refl _),Nat.sub_self];rfl,?_,?_⟩
    ·intro j x hx
     show f w≤f x
     rcases split j x hx with q | ⟨_,rfl⟩
     ·have:=h1' j x q;omega
     ·exact Nat.le_refl _
    ·intro j x hj hx
     show f w < f x
     rcases split j x hx with q | ⟨e,_⟩
     ·have:=h1' j x q;omega
     ·omega
   ·rw [if_neg c]
    refine ⟨rfl,i,by rw [List.getElem?_append_left hil];exact hi,?_,?_⟩
    ·intro j x hx
     show f u≤f x
     rcases split j x hx with q | ⟨_,rfl⟩
     ·exact h1' j x q
     ·omega
    ·intro j x hj hx
     show f u < f x
     rcases split j x hx with q | ⟨e,_⟩
     ·exact h2' j x hj q
     ·omega
theorem gather_best (y:Yard) (m b:Nat):Best y.cost (y.ways m (y.lacking m b)) (y.gather m b):=by
 have k:=least_fold (f:=y.cost) (st:=fun r w=>match r with | none=>some (y.cost w,w) | some (v,u)=>if y.cost w < v then some (y.cost w,w) else some (v,u)) (fun _=>rfl) (fun _ _ _=>rfl) (y.ways m (y.lacking m b)) [] none rfl
 exact k
theorem gather_first (y:Yard) (m b:Nat) {i:Nat} {w:List (Nat×Nat)} (hi:(y.ways m (y.lacking m b))[i]?=some w)
  (h1:∀(j:Nat) x,(y.ways m (y.lacking m b))[j]?=some x→y.cost w≤y.cost x) (h2:∀(j:Nat) x,j < i→(y.ways m (y.lacking m b))[j]?=some x→y.cost w < y.cost x) :
  y.gather m b=some (y.cost w,w):=by
 have k:=gather_best y m b
 revert k
 generalize y.gather m b=r
 intro k
 cases r with
 | none =>
  have k':y.ways m (y.lacking m b)=[]:=k
  rw [k'] at hi
  simp at hi
 | some q =>
  obtain ⟨v,u⟩:=q
  obtain ⟨hv,i',hi',h1',h2'⟩:=k
  have hv:v=y.cost u:=hv
  subst hv
  have hi':(y.ways m (y.lacking m b))[i']?=some u:=hi'
  have a1:=h1 i' u hi'
  have a2:y.cost u≤y.cost w:=h1' i w hi
  rcases Nat.lt_trichotomy i i' with c | c | c
  ·have:y.cost u < y.cost w:=h2' i w c hi
   omega
  ·subst c
   rw [hi] at hi'
   have:=Option.some.inj hi'
   subst this
   rfl
  ·have:=h2 i' u c hi';omega
theorem gather_none (y:Yard) (m b:Nat) (h:y.ways m (y.lacking m b)=[]):y.gather m b=none:=by
 unfold Yard.gather;rw [h];rfl
end Y58
namespace Y58
open Km415
theorem sum_filter (p:Nat→Bool) (f:Nat→Nat):∀l:List Nat,Km415.sum ((l.filter p).map f)=Km415.sum (l.map fun t=>if p t=true then f t else 0)
 | []=>rfl
 | a::l=>by
  rw [List.filter_cons,List.map_cons,sum_cons,←sum_filter p f l]
  by_cases h:p a=true
  ·rw [if_pos h,if_pos h,List.map_cons,sum_cons]
  ·rw [if_neg h,if_neg h];omega
def kgs (y:Yard) (b:Nat):Nat:=Km415.sum ((kinds TYPES b).map y.kgOf)
theorem kgs_split (y:Yard) {h b:Nat} (hs:∀t,b.testBit t=true→h.testBit t=true):kgs y (h - (h &&& b))+kgs y b=kgs y h:=by
 have e:h - (h &&& b)=h ^^^ (h &&& b):=by have:=less_and h b;omega
 rw [e]
 unfold kgs kinds
 rw [sum_filter,sum_filter,sum_filter,←sum_map_add]
 congr 1
 apply List.map_congr_left
 intro t _
 rw [Nat.testBit_xor,Nat.testBit_and]
 have:=hs t
 cases hb:b.testBit t with
 | true=>rw [this hb];simp
 | false=>cases h.testBit t <;> simp
theorem kgs_all (y:Yard) (hn:y.types.length≤8):kgs y (2^y.types.length - 1)=y.all:=by
 unfold kgs Yard.all
 have hp:2^y.types.length - 1 < 2^y.types.length:=by have:=Nat.two_pow_pos y.types.length;omega
 rw [show TYPES=8 from rfl,kinds_more hp hn]
 congr 1
 have e:kinds y.types.length (2^y.types.length - 1)=List.range y.types.length:=by
  unfold kinds
  apply List.filter_eq_self.mpr
  intro t ht
  rw [Nat.testBit_two_pow_sub_one]
  exact decide_eq_true (List.mem_range.mp ht)
 rw [e]
 apply List.ext_getElem?
 intro i
 rw [List.getElem?_map,List.getElem?_map]
 by_cases hi:i < y.types.length
 ·rw [List.getElem?_range hi,List.getElem?_eq_getElem hi]
  show some (y.kgOf i)=some _
  unfold Yard.kgOf
  rw [List.getElem?_eq_getElem hi]
 ·rw [List.getElem?_eq_none (by simp;omega),List.getElem?_eq_none (by omega)]
  rfl
structure Good (y:Yard):Prop where
 tl:y.types.length≤8
 ml:y.models.length≤6
 cl:y.cars.length≤8
 sl:y.stock.length=30
 ty:∀(i:Nat) (x:Type_),y.types[i]?=some x→1≤x.kg∧x.kg≤500∧1≤x.minutes∧x.minutes≤600∧x.needs < 2^i
 mo:∀(m:Nat) (x:Model),y.models[m]?=some x→y.all≤x.kg∧x.kg≤5000∧x.litres≤100∧x.groups.length=8∧∀g∈x.groups,g≤9
 ca:∀(k:Nat) (c:Car),y.cars[k]?=some c→c.model < y.models.length∧c.has < 2^y.types.length∧c.litres≤100∧kgs y c.has≤c.kg∧c.kg≤5000∧(c.gone=true→c.has=0∧c.kg=0∧c.litres=0)
 st:∀(i:Nat) (p:Part),y.stock[i]?=some (some p)→p.kind < y.types.length∧p.model < y.models.length
 tk:y.tank≤300
theorem Good.needs {y:Yard} (g:Good y) (k:Nat):y.needsOf k < 2^k:=by
 unfold Yard.needsOf
 cases h:y.types[k]? with
 | none=>exact Nat.two_pow_pos k
 | some x=>exact (g.ty k x h).2.2.2.2
theorem needs_out {y:Yard} {k:Nat} (h:y.types.length≤k):y.needsOf k=0:=by
 unfold Yard.needsOf
 rw [List.getElem?_eq_none h]
theorem Good.has8 {y:Yard} (g:Good y) {k:Nat} {c:Car} (h:y.cars[k]?=some c):c.has < 2^8 :=
 Nat.lt_of_lt_of_le (g.ca k c h).2.1 (Nat.pow_le_pow_right (by decide) g.tl)
theorem live_of {y:Yard} {k:Nat} {c:Car} (h:y.live k=some c):y.cars[k]?=some c∧c.gone=false:=by
 unfold Yard.live at h
 cases e:y.cars[k]? with
 | none=>rw [e] at h;cases h
 | some d =>
  rw [e] at h
  have h':(if d.gone=true then none else some d)=some c:=h
  by_cases q:d.gone=true
  ·rw [if_pos q] at h';cases h'
  ·rw [if_neg q] at h'
   cases h'
   exact ⟨rfl,by simpa using q⟩
theorem Good.closed {y:Yard} (g:Good y) (c:Car) (b:Nat):y.closed c TYPES b=mustN y.needsOf c.has y.types.length b:=by
 rw [closed_eq y c g.needs]
 obtain ⟨d,hd⟩:∃d,TYPES=y.types.length+d:=⟨8 - y.types.length,by have:=g.tl;show 8=_;omega⟩
 rw [hd]
 exact mustN_more (fun k hk=>needs_out hk) d b
theorem Good.closed_lt {y:Yard} (g:Good y) {k:Nat} {c:Car} (h:y.cars[k]?=some c) {b:Nat} (hb:b < 2^y.types.length):y.closed c TYPES b < 2^y.types.length:=by
 rw [g.closed]
 exact mustN_lt (g.ca k c h).2.1 _ _ hb
theorem Good.closed_sub {y:Yard} (g:Good y) {c:Car} {b:Nat} (hs:∀t,b.testBit t=true→c.has.testBit t=true):∀t,(y.closed c TYPES b).testBit t=true→c.has.testBit t=true:=by
 intro t h
 rw [g.closed] at h
 rcases mustN_sub _ _ h with q | q
 ·exact hs t q
 ·exact q
theorem store_mem:∀(l:List (Nat×Part)) (s:List (Option Part)) (i:Nat) (p:Part),(store s l)[i]?=some (some p)→s[i]?=some (some p)∨∃j,(j,p)∈l
 | [],_,_,_,h=>.inl h
 | (j,q)::l,s,i,p,h=>by
  rcases store_mem l _ i p h with h | ⟨j',h⟩
  ·rw [List.getElem?_set] at h
   split at h
   ·split at h
    ·cases h;exact .inr ⟨j,by simp⟩
    ·cases h
   ·exact .inl h
  ·exact .inr ⟨j',by simp [h]⟩
theorem zip_snd {α β:Type}:∀(l:List α) (m:List β) (a:α) (b:β),(a,b)∈l.zip m→b∈m
 | [],_,_,_,h=>by simp at h
 | _::_,[],_,_,h=>by simp at h
 | x::l,z::m,a,b,h=>by
  rw [List.zip_cons_cons] at h
  rcases List.mem_cons.mp h with h | h
  ·cases h;simp
  ·simp [zip_snd l m a b h]
theorem Good.takes {y:Yard} (g:Good y) {k:Nat} {c:Car} (hk:y.cars[k]?=some c) (hg:c.gone=false) {b:Nat} (hs:∀t,b.testBit t=true→c.has.testBit t=true) :
  Good (y.takes k c (kinds TYPES b)):=by
 have hkl:k < y.cars.length:=(List.getElem?_eq_some_iff.mp hk).1
 obtain ⟨c1,c2,c3,c4,c5,_⟩:=g.ca k c hk
 have h8:=g.has8 hk
 have ehas:bitsOf ((kinds TYPES c.has).filter fun t=>!((kinds TYPES b).contains t))=c.has - (c.has &&& b):=bitsOf_without (n:=8) h8
 refine ⟨g.tl,g.ml,?_,?_,g.ty,g.mo,?_,?_,g.tk⟩
 ·show (y.cars.set k _).length≤8
  rw [List.length_set];exact g.cl
 ·show (store y.stock _).length=30
  rw [store_length];exact g.sl
 ·intro j d hd
  have hd':(y.cars.set k (c.without (kinds TYPES b) (Km415.sum ((kinds TYPES b).map y.kgOf))))[j]?=some d:=hd
  rw [List.getElem?_set] at hd'
  split at hd'
  ·(try rw [if_pos hkl] at hd')
   cases hd'
   have sp:=kgs_split y hs
   have hkb:kgs y b≤kgs y c.has:=by omega
   refine ⟨c1,?_,c3,?_,?_,fun q=>?_⟩
   ·show bitsOf ((kinds TYPES c.has).filter fun t=>!((kinds TYPES b).contains t)) < _
    rw [ehas]
    exact Nat.lt_of_le_of_lt (Nat.sub_le _ _) c2
   ·show kgs y (bitsOf ((kinds TYPES c.has).filter fun t=>!((kinds TYPES b).contains t)))≤c.kg - kgs y b
    rw [ehas];omega
   ·show c.kg - _≤5000
    omega
   ·have q':c.gone=true:=q
    rw [hg] at q';cases q'
  ·exact g.ca j d hd'
 ·intro i p hp
  rcases store_mem _ _ _ _ hp with h | ⟨j,h⟩
  ·exact g.st i p h
  ·have h2:=zip_snd _ _ _ _ h
   obtain ⟨t,ht,rfl⟩:=List.mem_map.mp h2
   have hb2:=(mem_kinds.mp ht).2
   exact ⟨lt_of_testBit c2 (hs t hb2),c1⟩
theorem takes_cars (y:Yard) (k:Nat) (c:Car) (l:List Nat) {j:Nat} (h:j≠k):(y.takes k c l).cars[j]?=y.cars[j]?:=by
 show (y.cars.set k _)[j]?=_
 rw [List.getElem?_set_ne (fun e=>h e.symm)]
theorem Good.give {y:Yard} (g:Good y) (w:List (Nat×Nat)) (hw:∀p∈w,∃c,y.cars[p.2]?=some c∧c.gone=false∧c.has.testBit p.1=true) :
  ∀(ks:List Nat) (z:Yard),ks.Nodup→(∀k∈ks,k∈carsOf w)→Good z→z.types=y.types→(∀k∈ks,z.cars[k]?=y.cars[k]?)→Good (ks.foldl (Yd.give y w) z)
 | [],z,_,_,gz,_,_=>gz
 | k::ks,z,nd,hks,gz,ht,hc=>by
  rw [List.foldl_cons]
  have nd':=List.nodup_cons.mp nd
  obtain ⟨p,hp,rfl⟩:=mem_carsOf.mp (hks k (by simp))
  obtain ⟨c,hcy,hgone,_⟩:=hw p hp
  have e:Yd.give y w z p.2=z.takes p.2 c (kinds TYPES (y.closed c TYPES (wantOf w p.2))):=by
   unfold Yd.give
   rw [hcy]
   rfl
  have hcz:z.cars[p.2]?=some c:=(hc p.2 (by simp)).trans hcy
  have hsub:∀t,(wantOf w p.2).testBit t=true→c.has.testBit t=true:=by
   intro t h
   unfold wantOf at h
   rw [testBit_bitsOf,contains_iff] at h
   obtain ⟨q,hq,rfl⟩:=List.mem_map.mp h
   have hq':=List.mem_filter.mp hq
   obtain ⟨c',hc',_,hb'⟩:=hw q hq'.1
   have e2:q.2=p.2:=by simpa using hq'.2
   rw [e2,hcy] at hc'
   cases hc'
   exact hb'
  have hlt:wantOf w p.2 < 2^y.types.length:=by
   apply Nat.lt_pow_two_of_testBit
   intro i hi
   apply Bool.eq_false_iff.mpr
   intro q
   have:=lt_of_testBit (g.ca _ _ hcy).2.1 (hsub i q)
   omega
  have gz':Good (Yd.give y w z p.2):=by
   rw [e]
   exact gz.takes hcz hgone (g.closed_sub hsub)
  refine Good.give g w hw ks _ nd'.2 (fun k hk=>hks k (by simp [hk])) gz' (by rw [e];exact ht) fun k hk=>?_
  rw [e,takes_cars _ _ _ _ (fun q:k=p.2=>nd'.1 (by rw [←q];exact hk))]
  exact hc k (by simp [hk])
theorem from_mem {y:Yard} {t m k:Nat} (h:k∈y.from_ t m):∃c,y.cars[k]?=some c∧c.gone=false∧c.litres=0∧c.has.testBit t=true∧y.fits t c.model m=true:=by
 unfold Yard.from_ at h
 have h':=(List.mem_filter.mp h).2
 cases e:y.cars[k]? with
 | none=>simp only [e] at h';cases h'
 | some c =>
  simp only [e] at h'
  simp only [Bool.and_eq_true,Bool.not_eq_true',beq_iff_eq] at h'
  exact ⟨c,rfl,h'.1,h'.2.1,h'.2.2.1,h'.2.2.2⟩
theorem gather_way {y:Yard} {m b v:Nat} {w:List (Nat×Nat)} (h:y.gather m b=some (v,w)):v=y.cost w∧∃u∈prod (fun t=>y.from_ t m) (y.lacking m b),w=(y.lacking m b).zip u:=by
 have k:=gather_best y m b
 rw [h] at k
 obtain ⟨hv,i,hi,_⟩:=k
 refine ⟨hv,?_⟩
 have hm:=List.mem_of_getElem? hi
 rw [ways_eq] at hm
 obtain ⟨u,hu,e⟩:=List.mem_map.mp hm
 exact ⟨u,hu,e.symm⟩
theorem Good.gathered {y:Yard} (g:Good y) {m b v:Nat} {w:List (Nat×Nat)} (h:y.gather m b=some (v,w)):Good (y.gathered w):=by
 rw [gathered_eq]
 obtain ⟨_,u,hu,rfl⟩:=gather_way h
 refine g.give _ (fun p hp=>?_) _ y (List.Pairwise.filter _ List.nodup_range) (fun k hk=>by simpa using (List.mem_filter.mp hk).2) g rfl (fun _ _=>rfl)
 obtain ⟨c,h1,h2,_,h4,_⟩:=from_mem (prod_mem hu p hp)
 exact ⟨c,h1,h2,h4⟩
structure GoodD (d:Desk):Prop where
 now:Good d.now
 past:∀y∈d.past,Good y
 fut:∀y∈d.future,Good y
 len:d.past.length≤30
 flen:d.past.length+d.future.length≤30
theorem opened_good:Good opened:=by
 refine ⟨by decide,by decide,by decide,by decide,?_,?_,?_,?_,by decide⟩
 ·intro i x h;simp [opened] at h
 ·intro i x h;simp [opened] at h
 ·intro i x h;simp [opened] at h
 ·intro i p h
  have:(List.replicate STOCK (none:Option Part))[i]?=some (some p):=h
  rw [List.getElem?_replicate] at this
  split at this <;> cases this
def CallOk:Call→Prop
 | .model _ _ q=>q.length=8
 | _=>True
theorem GoodD.become {d:Desk} (g:GoodD d) {y:Yard} (h:Good y):GoodD (d.become y):=by
 refine ⟨h,fun z hz=>?_,fun z hz=>(by cases hz),?_,?_⟩
 ·have hz':=List.mem_of_mem_take (show z∈(d.now::d.past).take PAST from hz)
  rcases List.mem_cons.mp hz' with rfl | hz'
  ·exact g.now
  ·exact g.past z hz'
 ·show ((d.now::d.past).take PAST).length≤30
  rw [List.length_take];exact Nat.min_le_left _ _
 ·show ((d.now::d.past).take PAST).length+0≤30
  rw [List.length_take];exact Nat.min_le_left _ _
theorem kgs_types {y z:Yard} (h:z.types=y.types) (b:Nat):kgs z b=kgs y b:=by
 unfold kgs
 have:z.kgOf=y.kgOf:=by funext t;unfold Yard.kgOf;rw [h]
 rw [this]
theorem Good.setCar {y z:Yard} (g:Good y) (ht:z.types=y.types) (hm:z.models=y.models) (hs:z.stock=y.stock) (htk:z.tank≤300) {k:Nat} {c:Car} (hz:z.cars=y.cars.set k c)
  (hc:c.model < y.models.length∧c.has < 2^y.types.length∧c.litres≤100∧kgs y c.has≤c.kg∧c.kg≤5000∧(c.gone=true→c.has=0∧c.kg=0∧c.litres=0)):Good z:=by
 have hall:z.all=y.all:=by unfold Yard.all;rw [ht]
 refine ⟨by rw [ht];exact g.tl,by rw [hm];exact g.ml,by rw [hz,List.length_set];exact g.cl,by rw [hs];exact g.sl,by rw [ht];exact g.ty,by rw [hm,hall];exact g.mo,?_,by rw [hs,ht,hm];exact g.st,htk⟩
 intro j d hd
 rw [hz,List.getElem?_set] at hd
 rw [hm,ht,kgs_types ht]
 split at hd
 ·split at hd
  ·cases hd;exact hc
  ·cases hd
 ·exact g.ca j d hd
theorem Good.same {y z:Yard} (g:Good y) (ht:z.types=y.types) (hm:z.models=y.models) (hs:z.stock=y.stock) (hc:z.cars=y.cars) (htk:z.tank≤300):Good z:=by
 have hall:z.all=y.all:=by unfold Yard.all;rw [ht]
 refine ⟨by rw [ht];exact g.tl,by rw [hm];exact g.ml,by rw [hc];exact g.cl,by rw [hs];exact g.sl,by rw [ht];exact g.ty,by rw [hm,hall];exact g.mo,?_,by rw [hs,ht,hm];exact g.st,htk⟩
 intro j d hd
 rw [hc] at hd
 rw [hm,ht,kgs_types ht]
 exact g.ca j d hd
theorem getElem?_snoc {α:Type} {l:List α} {a x:α} {i:Nat} (h:(l++[a])[i]?=some x):l[i]?=some x∨(i=l.length∧x=a):=by
 rcases Nat.lt_trichotomy i l.length with q | q | q
 ·rw [List.getElem?_append_left q] at h;exact .inl h
 ·subst q
  rw [List.getElem?_append_right (Nat.le_refl _),Nat.sub_self] at h
  exact .inr ⟨rfl,(Option.some.inj h).symm⟩
 ·exfalso
  have:=(List.getElem?_eq_some_iff.mp h).1
  simp at this
  omega
theorem Good.addType {y:Yard} (g:Good y) {x:Type_} (hm:y.models=[]) (hl:y.types.length < 8) (hx:1≤x.kg∧x.kg≤500∧1≤x.minutes∧x.minutes≤600∧x.needs < 2^y.types.length):Good { y with types:=y.types++[x] }:=by
 refine ⟨?_,g.ml,g.cl,g.sl,?_,?_,?_,?_,g.tk⟩
 ·show (y.types++[x]).length≤8
  rw [List.length_append];exact hl
 ·intro i z hz
  rcases getElem?_snoc (show (y.types++[x])[i]?=some z from hz) with h | ⟨rfl,rfl⟩
  ·exact g.ty i z h
  ·exact hx
 ·intro m z hz
  have hz':y.models[m]?=some z:=hz
  rw [hm] at hz';cases hz'
 ·intro k c hc
  have:=(g.ca k c hc).1
  rw [hm] at this
  exact absurd this (Nat.not_lt_zero _)
 ·intro i p hp
  have:=(g.st i p hp).2
  rw [hm] at this
  exact absurd this (Nat.not_lt_zero _)
theorem Good.addModel {y:Yard} (g:Good y) {x:Model} (hl:y.models.length < 6) (hx:y.all≤x.kg∧x.kg≤5000∧x.litres≤100∧x.groups.length=8∧∀g∈x.groups,g≤9):Good { y with models:=y.models++[x] }:=by
 have hlen:(y.models++[x]).length=y.models.length+1:=by simp
 refine ⟨g.tl,?_,g.cl,g.sl,g.ty,?_,?_,?_,g.tk⟩
 ·show (y.models++[x]).length≤6
  rw [hlen];exact hl
 ·intro m z hz
  rcases getElem?_snoc (show (y.models++[x])[m]?=some z from hz) with h | ⟨_,rfl⟩
  ·exact g.mo m z h
  ·exact hx
 ·intro k c hc
  obtain ⟨a,b⟩:=g.ca k c hc
  exact ⟨by show c.model < (y.models++[x]).length;rw [hlen];omega,b⟩
 ·intro i p hp
  obtain ⟨a,b⟩:=g.st i p hp
  exact ⟨a,by show p.model < (y.models++[x]).length;rw [hlen];omega⟩
theorem Good.addCar {y z:Yard} (g:Good y) {c:Car} (ht:z.types=y.types) (hm:z.models=y.models) (hs:z.stock=y.stock) (htk:z.tank=y.tank) (hz:z.cars=y.cars++[c]) (hl:y.cars.length < 8)
  (hc:c.model < y.models.length∧c.has < 2^y.types.length∧c.litres≤100∧kgs y c.has≤c.kg∧c.kg≤5000∧(c.gone=true→c.has=0∧c.kg=0∧c.litres=0)):Good z:=by
 have hall:z.all=y.all:=by unfold Yard.all;rw [ht]
 refine ⟨by rw [ht];exact g.tl,by rw [hm];exact g.ml,by rw [hz,List.length_append];exact hl,by rw [hs];exact g.sl,by rw [ht];exact g.ty,by rw [hm,hall];exact g.mo,?_,by rw [hs,ht,hm];exact g.st,by rw [htk];exact g.tk⟩
 intro j d hd
 rw [hz] at hd
 rw [hm,ht,kgs_types ht]
 rcases getElem?_snoc hd with h | ⟨_,rfl⟩
 ·exact g.ca j d h
 ·exact hc
theorem Good.sell {y z:Yard} (g:Good y) (ht:z.types=y.types) (hm:z.models=y.models) (hc:z.cars=y.cars) (htk:z.tank=y.tank) {i:Nat} (hs:z.stock=y.stock.set i none):Good z:=by
 have hall:z.all=y.all:=by unfold Yard.all;rw [ht]
 refine ⟨by rw [ht];exact g.tl,by rw [hm];exact g.ml,by rw [hc];exact g.cl,by rw [hs,List.length_set];exact g.sl,by rw [ht];exact g.ty,by rw [hm,hall];exact g.mo,?_,?_,by rw [htk];exact g.tk⟩
 ·intro j d hd
  rw [hc] at hd
  rw [hm,ht,kgs_types ht]
  exact g.ca j d hd
 ·intro j p hp
  rw [hs,List.getElem?_set] at hp
  rw [ht,hm]
  split at hp
  ·split at hp <;> cases hp
  ·exact g.st j p hp
theorem Good.car0 {y:Yard} (g:Good y) {m b:Nat} {x:Model} (hx:y.models[m]?=some x) (hb:b < 2^y.types.length) :
  (Car.mk m (2^y.types.length - 1 - b) x.litres (x.kg - Km415.sum ((kinds TYPES b).map y.kgOf)) false).model < y.models.length∧2^y.types.length - 1 - b < 2^y.types.length∧x.litres≤100 ∧
   kgs y (2^y.types.length - 1 - b)≤x.kg - Km415.sum ((kinds TYPES b).map y.kgOf)∧x.kg - Km415.sum ((kinds TYPES b).map y.kgOf)≤5000∧(false=true→2^y.types.length - 1 - b=0∧x.kg - Km415.sum ((kinds TYPES b).map y.kgOf)=0∧x.litres=0):=by
 obtain ⟨h1,h2,h3,_⟩:=g.mo m x hx
 have hp:=Nat.two_pow_pos y.types.length
 refine ⟨(List.getElem?_eq_some_iff.mp hx).1,by omega,h3,?_,by omega,fun q=>by cases q⟩
 have sp:=kgs_split y (h:=2^y.types.length - 1) (b:=b) (fun t ht=>by
  rw [Nat.testBit_two_pow_sub_one]
  exact decide_eq_true (lt_of_testBit hb ht))
 rw [←all_less _ _ hb,kgs_all y g.tl] at sp
 have e:Km415.sum ((kinds TYPES b).map y.kgOf)=kgs y b:=rfl
 rw [e];omega
theorem act_good {d:Desk} (g:GoodD d) (c:Call) (hc:CallOk c):GoodD (act d c).1:=by
 have gn:=g.now
 cases c with
 | start=>exact ⟨opened_good,fun _ h=>(by cases h),fun _ h=>(by cases h),Nat.zero_le _,Nat.zero_le _⟩
 | type_ kg m n h =>
  simp only [act]
  split
  ·exact g
  ·rename_i q
   split
   ·exact g
   ·rename_i q2
    split
    ·exact g
    ·rename_i q3
     have q2':d.now.models=[]:=by simpa using q2
     have q3':¬ 8≤d.now.types.length:=q3
     refine g.become (gn.addType q2' (by omega) ⟨?_,?_,?_,?_,?_⟩)
     ·show 1≤kg;omega
     ·show kg≤500;omega
     ·show 1≤m;omega
     ·show m≤600;omega
     ·show n < 2^d.now.types.length
      exact Nat.lt_of_not_le fun z=>q (.inr (.inr (.inr (.inr (.inl z)))))
 | model kg l q =>
  simp only [act]
  split
  ·exact g
  ·rename_i q1
   split
   ·exact g
   ·rename_i q2
    have q2':¬ 6≤d.now.models.length:=q2
    refine g.become (gn.addModel (by omega) ⟨?_,?_,?_,hc,?_⟩)
    ·show d.now.all≤kg;omega
    ·show kg≤5000;omega
    ·show l≤100;omega
    ·intro z hz
     apply Classical.byContradiction
     intro hn
     exact q1 (.inr (.inr (.inr (List.any_eq_true.mpr ⟨z,hz,decide_eq_true (by omega)⟩))))
 | car m b =>
  simp only [act]
  split
  ·exact g
  ·rename_i x hx
   split
   ·exact g
   ·rename_i q1
    split
    ·exact g
    ·rename_i q2
     have q2':¬ 8≤d.now.cars.length:=q2
     exact g.become (gn.addCar rfl rfl rfl rfl rfl (by omega) (gn.car0 hx (by omega)))
 | drain k =>
  simp only [act]
  split
  ·exact g
  ·rename_i x hx
   split
   ·exact g
   ·split
    ·exact g
    ·rename_i q2
     obtain ⟨h1,h2⟩:=live_of hx
     obtain ⟨c1,c2,c3,c4,c5,c6⟩:=gn.ca k x h1
     have q2':¬ 300 < d.now.tank+x.litres:=q2
     refine g.become (gn.setCar rfl rfl rfl (by show d.now.tank+x.litres≤300;omega) rfl ⟨c1,c2,by show 0≤100;omega,c4,c5,fun q=>?_⟩)
     have q':x.gone=true:=q
     rw [h2] at q';cases q'
 | off_ k t =>
  simp only [act]
  split
  ·exact g
  ·rename_i x hx
   split
   ·exact g
   ·rename_i q0
    split
    ·exact g
    ·split
     ·exact g
     ·split
      ·exact g
      ·obtain ⟨h1,h2⟩:=live_of hx
       have hb:x.has.testBit t=true:=by simpa using q0
       have ht:=lt_of_testBit (gn.has8 h1) hb
       have e:[t]=kinds TYPES (2^t):=by
        have ht8:t < TYPES:=ht
        unfold kinds
        have hf:((List.range TYPES).filter fun u=>(2^t).testBit u)=(List.range TYPES).filter fun u=>u==t:=by
         apply List.filter_congr
         intro u _
         rw [Nat.testBit_two_pow]
         by_cases z:t=u
         ·subst z;simp
         ·have z':¬ u=t:=fun e=>z e.symm
          simp [z,z']
        rw [hf,List.filter_beq]
        have hcnt:(List.range TYPES).count t=1:=by
         rw [List.Nodup.count List.nodup_range,if_pos (List.mem_range.mpr ht8)]
        rw [hcnt]
        rfl
       rw [e]
       refine g.become (gn.takes h1 h2 fun u hu=>?_)
       rw [Nat.testBit_two_pow] at hu
       have:t=u:=of_decide_eq_true hu
       subst this
       exact hb
 | strip k t =>
  simp only [act]
  split
  ·exact g
  ·rename_i x hx
   split
   ·exact g
   ·rename_i q0
    split
    ·exact g
    ·split
     ·exact g
     ·obtain ⟨h1,h2⟩:=live_of hx
      have hb:x.has.testBit t=true:=by simpa using q0
      have ht:=lt_of_testBit (gn.ca k x h1).2.1 hb
      refine g.become (gn.takes h1 h2 ?_)
      ·refine gn.closed_sub fun u hu=>?_
       rw [Nat.testBit_two_pow] at hu
       have:t=u:=of_decide_eq_true hu
       subst this
       exact hb
 | gather_ m b =>
  simp only [act]
  split
  ·exact g
  ·split
   ·exact g
   ·split
    ·exact g
    ·rename_i v w hw
     split
     ·exact g
     ·exact g.become (gn.gathered hw)
 | sell i p =>
  simp only [act]
  split
  ·exact g
  ·split
   ·exact g
   ·exact g.become (gn.sell rfl rfl rfl rfl rfl)
 | crush k =>
  simp only [act]
  split
  ·exact g
  ·rename_i x hx
   split
   ·exact g
   ·rename_i q0
    split
    ·exact g
    ·obtain ⟨h1,h2⟩:=live_of hx
     obtain ⟨c1,c2,c3,c4,c5,c6⟩:=gn.ca k x h1
     have q0':x.litres=0:=by simpa using q0
     refine g.become (gn.setCar rfl rfl rfl gn.tk rfl ⟨c1,Nat.two_pow_pos _,c3,?_,by show 0≤5000;omega,fun _=>⟨rfl,rfl,q0'⟩⟩)
     show kgs d.now 0≤0
     have e0:kinds TYPES 0=[]:=by decide
     unfold kgs
     rw [e0]
     exact Nat.le_refl _
 | cart p =>
  simp only [act]
  split
  ·exact g
  ·split
   ·exact g
   ·exact g.become (gn.same rfl rfl rfl rfl gn.tk)
 | pump n p =>
  simp only [act]
  split
  ·exact g
  ·split
   ·exact g
   ·exact g.become (gn.same rfl rfl rfl rfl (by show d.now.tank - n≤300;have:=gn.tk;omega))
 | back =>
  simp only [act]
  split
  ·exact g
  ·rename_i k r hr
   have hl:=g.flen
   rw [hr,List.length_cons] at hl
   refine ⟨g.past k (by rw [hr];simp),fun y hy=>g.past y (by rw [hr];simp [hy]),fun y hy=>?_,by show r.length≤30;omega,by show r.length+(d.now::d.future).length≤30;rw [List.length_cons];omega⟩
   rcases List.mem_cons.mp hy with rfl | hy
   ·exact g.now
   ·exact g.fut y hy
 | again =>
  simp only [act]
  split
  ·exact g
  ·rename_i k r hr
   have hl:=g.flen
   rw [hr,List.length_cons] at hl
   refine ⟨g.fut k (by rw [hr];simp),fun y hy=>?_,fun y hy=>g.fut y (by rw [hr];simp [hy]),?_,?_⟩
   ·have hy':=List.mem_of_mem_take (show y∈(d.now::d.past).take PAST from hy)
    rcases List.mem_cons.mp hy' with rfl | hy'
    ·exact g.now
    ·exact g.past y hy'
   ·show ((d.now::d.past).take PAST).length≤30
    rw [List.length_take];exact Nat.min_le_left _ _
   ·show ((d.now::d.past).take PAST).length+r.length≤30
    rw [List.length_take,List.length_cons]
    have:=Nat.min_le_right PAST (d.past.length+1)
    omega
 | _=>exact g
end Y58
namespace Y58
open Km415
def enc:Call→List (List Int)
 | .start=>[[0]]
 | .type_ a b c d=>[[1,a,b,c,d]]
 | .model a b q=>[[2,a,b],q.map fun (n:Nat)=>(n:Int)]
 | .car a b=>[[3,a,b]]
 | .drain a=>[[4,a]]
 | .off_ a b=>[[5,a,b]]
 | .strip a b=>[[6,a,b]]
 | .gather_ a b=>[[7,a,b]]
 | .sell a b=>[[8,a,b]]
 | .crush a=>[[9,a]]
 | .cart a=>[[10,a]]
 | .pump a b=>[[11,a,b]]
 | .fits a b c=>[[12,a,b,c]]
 | .closure a b=>[[13,a,b]]
 | .may a b=>[[14,a,b]]
 | .next a=>[[15,a]]
 | .look a=>[[16,a]]
 | .find a b=>[[17,a,b]]
 | .from_ a b=>[[18,a,b]]
 | .gather a b=>[[19,a,b]]
 | .lacking a b=>[[20,a,b]]
 | .part a=>[[21,a]]
 | .count a=>[[22,a]]
 | .alike a=>[[23,a]]
 | .harm a=>[[24,a]]
 | .weights=>[[25]]
 | .litres=>[[26]]
 | .money=>[[27]]
 | .back=>[[28]]
 | .again=>[[29]]
 | .state=>[[30]]
def CallIn (x:Call):Prop:=(∀r∈enc x,∀z∈r,0≤z∧z < 2^32)∧CallOk x
theorem nat_of {z:Int} (h:Km415Neutral.natural z 32=true):((z.toNat:Nat):Int)=z∧0≤z∧z < 2^32:=by
 unfold Km415Neutral.natural at h
 rw [Bool.and_eq_true,decide_eq_true_iff,decide_eq_true_iff] at h
 exact ⟨Int.toNat_of_nonneg h.1,h⟩
theorem nats_of:∀{r:List Int},(r.all fun z=>Km415Neutral.natural z 32)=true→(Km415Neutral.nats r).map (fun (n:Nat)=>(n:Int))=r∧∀z∈r,0≤z∧z < 2^32
 | [],_=>⟨rfl,fun _ h=>by cases h⟩
 | z::r,h=>by
  rw [List.all_cons,Bool.and_eq_true] at h
  obtain ⟨h1,h2⟩:=h
  obtain ⟨e,b⟩:=nat_of h1
  obtain ⟨e2,b2⟩:=nats_of h2
  refine ⟨?_,fun x hx=>?_⟩
  ·show ((z.toNat:Nat):Int)::(Km415Neutral.nats r).map _=_
   rw [e,e2]
  ·rcases List.mem_cons.mp hx with rfl | hx
   ·exact b
   ·exact b2 x hx
theorem l0 {α:Type} {a:List α} (h:0=a.length):a=[]:=List.eq_nil_of_length_eq_zero h.symm
theorem l1 {α:Type} {a:List α} (h:1=a.length):∃x,a=[x]:=match a,h with | [x],_=>⟨x,rfl⟩
theorem l2 {α:Type} {a:List α} (h:2=a.length):∃x y,a=[x,y]:=match a,h with | [x,y],_=>⟨x,y,rfl⟩
theorem l3 {α:Type} {a:List α} (h:3=a.length):∃x y z,a=[x,y,z]:=match a,h with | [x,y,z],_=>⟨x,y,z,rfl⟩
theorem l4 {α:Type} {a:List α} (h:4=a.length):∃x y z u,a=[x,y,z,u]:=match a,h with | [x,y,z,u],_=>⟨x,y,z,u,rfl⟩
theorem both {n m i j:Nat} (h:some (n,m)=some (i,j)):n=i∧m=j:=⟨congrArg Prod.fst (Option.some.inj h),congrArg Prod.snd (Option.some.inj h)⟩
theorem in1 {p:Int} {a:List Int} (hp:0≤p∧p < 2^32) (h:∀z∈a,0≤z∧z < 2^32):∀r∈[p::a],∀z∈r,0≤z∧z < 2^32:=fun r hr z hz=>by
 rw [List.mem_singleton] at hr
 subst hr
 rcases List.mem_cons.mp hz with rfl | hz
 ·exact hp
 ·exact h z hz
theorem shape_in {p:Int} {q:Nat×Nat} (h:PyKm415.shape p=some q):∃k:Nat,k < 31∧p=(k:Int):=by
 by_cases h0:0≤p∧p≤30
 ·exact ⟨p.toNat,by omega,by omega⟩
 ·exfalso
  unfold PyKm415.shape at h
  rw [if_neg (show ¬ p=0 by omega),if_neg (show ¬ p=1 by omega),if_neg (show ¬ p=2 by omega),if_neg (show ¬ p=3 by omega),if_neg (show ¬ p=4 by omega),if_neg (show ¬ p=5 by omega),if_neg (show ¬ p=6 by omega),if_neg (show ¬ p=7 by omega),if_neg (show ¬ p=8 by omega),if_neg (show ¬ p=9 by omega),if_neg (show ¬ p=10 by omega),if_neg (show ¬ p=11 by omega),if_neg (show ¬ p=12 by omega),if_neg (show ¬ p=13 by omega),if_neg (show ¬ p=14 by omega),if_neg (show ¬ p=15 by omega),if_neg (show ¬ p=16 by omega),if_neg (show ¬ p=17 by omega),if_neg (show ¬ p=18 by omega),if_neg (show ¬ p=19 by omega),if_neg (show ¬ p=20 by omega),if_neg (show ¬ p=21 by omega),if_neg (show ¬ p=22 by omega),if_neg (show ¬ p=23 by omega),if_neg (show ¬ p=24 by omega),if_neg (show ¬ p=25 by omega),if_neg (show ¬ p=26 by omega),if_neg (show ¬ p=27 by omega),if_neg (show ¬ p=28 by omega),if_neg (show ¬ p=29 by omega),if_neg (show ¬ p=30 by omega)] at h
  cases h
def Told (c:List (List Int)):Prop:=Km415Neutral.asked1 c=true→∃x:Call,Km415Neutral.callOf c=some x∧enc x=c∧CallIn x
theorem tl0 {n:Int} {f:Call} (e:enc f=[[n]]) (c:Km415Neutral.callOf [[n]]=some f) (k:CallOk f) (hn:0≤n∧n < 2^32):Told [[n]]:=fun _=>⟨f,c,e,by rw [e];exact in1 hn (fun _ h=>by cases h),k⟩
theorem tl1 {n:Int} {f:Nat→Call} (e:∀a,enc (f a)=[[n,(a:Int)]]) (c:∀a:Int,Km415Neutral.callOf [[n,a]]=some (f a.toNat)) (k:∀a,CallOk (f a)) (q:∀a:Int,Km415Neutral.asked1 [[n,a]]=Km415Neutral.natural a 32) (hn:0≤n∧n < 2^32) (a:Int):Told [[n,a]]:=fun h=>by
 rw [q] at h
 obtain ⟨ea,ba⟩:=nat_of h
 have e':enc (f a.toNat)=[[n,a]]:=by rw [e,ea]
 refine ⟨f a.toNat,c a,e',?_,k _⟩
 rw [e']
 refine in1 hn fun z hz=>?_
 simp only [List.mem_cons,List.not_mem_nil,or_false] at hz
 rcases hz with rfl
 assumption
theorem tl2 {n:Int} {f:Nat→Nat→Call} (e:∀a b,enc (f a b)=[[n,(a:Int),(b:Int)]]) (c:∀a b:Int,Km415Neutral.callOf [[n,a,b]]=some (f a.toNat b.toNat)) (k:∀a b,CallOk (f a b)) (q:∀a b:Int,Km415Neutral.asked1 [[n,a,b]]=(Km415Neutral.natural a 32&&Km415Neutral.natural b 32)) (hn:0≤n∧n < 2^32) (a b:Int):Told [[n,a,b]]:=fun h=>by
 rw [q,Bool.and_eq_true] at h
 obtain ⟨ea,ba⟩:=nat_of h.1
 obtain ⟨eb,bb⟩:=nat_of h.2
 have e':enc (f a.toNat b.toNat)=[[n,a,b]]:=by rw [e,ea,eb]
 refine ⟨f a.toNat b.toNat,c a b,e',?_,k _ _⟩
 rw [e']
 refine in1 hn fun z hz=>?_
 simp only [List.mem_cons,List.not_mem_nil,or_false] at hz
 rcases hz with rfl | rfl <;> assumption
theorem told1 {a b c d:Int}:Told [[1,a,b,c,d]]:=fun h=>by
 have h':(Km415Neutral.natural a 32&&Km415Neutral.natural b 32&&Km415Neutral.natural c 32&&Km415Neutral.natural d 32)=true:=h
 simp only [Bool.and_eq_true] at h'
 obtain ⟨ea,ba⟩:=nat_of h'.1.1.1
 obtain ⟨eb,bb⟩:=nat_of h'.1.1.2
 obtain ⟨ec,bc⟩:=nat_of h'.1.2
 obtain ⟨ed,bd⟩:=nat_of h'.2
 have e:enc (.type_ a.toNat b.toNat c.toNat d.toNat)=[[1,a,b,c,d]]:=by
  show ([[1,((a.toNat:Nat):Int),((b.toNat:Nat):Int),((c.toNat:Nat):Int),((d.toNat:Nat):Int)]]:List (List Int))=_
  rw [ea,eb,ec,ed]
 refine ⟨.type_ a.toNat b.toNat c.toNat d.toNat,rfl,e,?_,trivial⟩
 rw [e]
 refine in1 (by decide) fun z hz=>?_
 simp only [List.mem_cons,List.not_mem_nil,or_false] at hz
 rcases hz with rfl | rfl | rfl | rfl <;> assumption
theorem told12 {a b c:Int}:Told [[12,a,b,c]]:=fun h=>by
 have h':(Km415Neutral.natural a 32&&Km415Neutral.natural b 32&&Km415Neutral.natural c 32)=true:=h
 simp only [Bool.and_eq_true] at h'
 obtain ⟨ea,ba⟩:=nat_of h'.1.1
 obtain ⟨eb,bb⟩:=nat_of h'.1.2
 obtain ⟨ec,bc⟩:=nat_of h'.2
 have e:enc (.fits a.toNat b.toNat c.toNat)=[[12,a,b,c]]:=by
  show ([[12,((a.toNat:Nat):Int),((b.toNat:Nat):Int),((c.toNat:Nat):Int)]]:List (List Int))=_
  rw [ea,eb,ec]
 refine ⟨.fits a.toNat b.toNat c.toNat,rfl,e,?_,trivial⟩
 rw [e]
 refine in1 (by decide) fun z hz=>?_
 simp only [List.mem_cons,List.not_mem_nil,or_false] at hz
 rcases hz with rfl | rfl | rfl <;> assumption
theorem told2 {a b:Int} {q:List Int}:Told [[2,a,b],q]:=fun h=>by
 have h':(Km415Neutral.natural a 32&&Km415Neutral.natural b 32&&(decide (q.length=8)&&q.all fun z=>Km415Neutral.natural z 32))=true:=h
 simp only [Bool.and_eq_true,decide_eq_true_eq] at h'
 obtain ⟨ea,ba⟩:=nat_of h'.1.1
 obtain ⟨eb,bb⟩:=nat_of h'.1.2
 obtain ⟨eq,bq⟩:=nats_of h'.2.2
 have e:enc (.model a.toNat b.toNat (Km415Neutral.nats q))=[[2,a,b],q]:=by
  show ([[2,((a.toNat:Nat):Int),((b.toNat:Nat):Int)],_]:List (List Int))=_
  rw [ea,eb,eq]
 refine ⟨.model a.toNat b.toNat (Km415Neutral.nats q),rfl,e,?_,?_⟩
 ·rw [e]
  intro r hr z hz
  simp only [List.mem_cons,List.not_mem_nil,or_false] at hr
  rcases hr with rfl | rfl
  ·simp only [List.mem_cons,List.not_mem_nil,or_false] at hz
   rcases hz with rfl | rfl | rfl
   ·decide
   ·assumption
   ·assumption
  ·exact bq z hz
 ·show (Km415Neutral.nats q).length=8
  unfold Km415Neutral.nats;rw [List.length_map];exact h'.2.1
theorem by_shape {C:List (List Int)→Prop} (h0:C [[0]]) (h1:∀x y z u,C [[1,x,y,z,u]]) (h2:∀x y r,C [[2,x,y],r]) (h3:∀x y,C [[3,x,y]]) (h4:∀x,C [[4,x]]) (h5:∀x y,C [[5,x,y]]) (h6:∀x y,C [[6,x,y]]) (h7:∀x y,C [[7,x,y]]) (h8:∀x y,C [[8,x,y]]) (h9:∀x,C [[9,x]]) (h10:∀x,C [[10,x]]) (h11:∀x y,C [[11,x,y]]) (h12:∀x y z,C [[12,x,y,z]]) (h13:∀x y,C [[13,x,y]]) (h14:∀x y,C [[14,x,y]]) (h15:∀x,C [[15,x]]) (h16:∀x,C [[16,x]]) (h17:∀x y,C [[17,x,y]]) (h18:∀x y,C [[18,x,y]]) (h19:∀x y,C [[19,x,y]]) (h20:∀x y,C [[20,x,y]]) (h21:∀x,C [[21,x]]) (h22:∀x,C [[22,x]]) (h23:∀x,C [[23,x]]) (h24:∀x,C [[24,x]]) (h25:C [[25]]) (h26:C [[26]]) (h27:C [[27]]) (h28:C [[28]]) (h29:C [[29]]) (h30:C [[30]]) {c:List (List Int)} (ok:PyFlat.okCall PyKm415.shape c):C c:=by
 obtain ⟨p,a,xs,rfl,hs⟩:=ok
 obtain ⟨k,hk,rfl⟩:=shape_in hs
 match k,hk with
 | 0,_ =>
  obtain ⟨g1,g2⟩:=both (show some (0,0)=some (a.length,xs.length) from hs)
  obtain rfl:=l0 g1
  obtain rfl:=l0 g2
  exact h0
 | 1,_ =>
  obtain ⟨g1,g2⟩:=both (show some (4,0)=some (a.length,xs.length) from hs)
  obtain ⟨x,y,z,u,rfl⟩:=l4 g1
  obtain rfl:=l0 g2
  exact h1 _ _ _ _
 | 2,_ =>
  obtain ⟨g1,g2⟩:=both (show some (2,1)=some (a.length,xs.length) from hs)
  obtain ⟨x,y,rfl⟩:=l2 g1
  obtain ⟨r,rfl⟩:=l1 g2
  exact h2 _ _ _
 | 3,_ =>
  obtain ⟨g1,g2⟩:=both (show some (2,0)=some (a.length,xs.length) from hs)
  obtain ⟨x,y,rfl⟩:=l2 g1
  obtain rfl:=l0 g2
  exact h3 _ _
 | 4,_ =>
  obtain ⟨g1,g2⟩:=both (show some (1,0)=some (a.length,xs.length) from hs)
  obtain ⟨x,rfl⟩:=l1 g1
  obtain rfl:=l0 g2
  exact h4 _
 | 5,_ =>
  obtain ⟨g1,g2⟩:=both (show some (2,0)=some (a.length,xs.length) from hs)
  obtain ⟨x,y,rfl⟩:=l2 g1
  obtain rfl:=l0 g2
  exact h5 _ _
 | 6,_ =>
  obtain ⟨g1,g2⟩:=both (show some (2,0)=some (a.length,xs.length) from hs)
  obtain ⟨x,y,rfl⟩:=l2 g1
  obtain rfl:=l0 g2
  exact h6 _ _
 | 7,_ =>
  obtain ⟨g1,g2⟩:=both (show some (2,0)=some (a.length,xs.length) from hs)
  obtain ⟨x,y,rfl⟩:=l2 g1
  obtain rfl:=l0 g2
  exact h7 _ _
 | 8,_ =>
  obtain ⟨g1,g2⟩:=both (show some (2,0)=some (a.length,xs.length) from hs)
  obtain ⟨x,y,rfl⟩:=l2 g1
  obtain rfl:=l0 g2
  exact h8 _ _
 | 9,_ =>
  obtain ⟨g1,g2⟩:=both (show some (1,0)=some (a.length,xs.length) from hs)
  obtain ⟨x,rfl⟩:=l1 g1
  obtain rfl:=l0 g2
  exact h9 _
 | 10,_ =>
  obtain ⟨g1,g2⟩:=both (show some (1,0)=some (a.length,xs.length) from hs)
  obtain ⟨x,rfl⟩:=l1 g1
  obtain rfl:=l0 g2
  exact h10 _
 | 11,_ =>
  obtain ⟨g1,g2⟩:=both (show some (2,0)=some (a.length,xs.length) from hs)
  obtain ⟨x,y,rfl⟩:=l2 g1
  obtain rfl:=l0 g2
  exact h11 _ _
 | 12,_ =>
  obtain ⟨g1,g2⟩:=both (show some (3,0)=some (a.length,xs.length) from hs)
  obtain ⟨x,y,z,rfl⟩:=l3 g1
  obtain rfl:=l0 g2
  exact h12 _ _ _
 | 13,_ =>
  obtain ⟨g1,g2⟩:=both (show some (2,0)=some (a.length,xs.length) from hs)
  obtain ⟨x,y,rfl⟩:=l2 g1
  obtain rfl:=l0 g2
  exact h13 _ _
 | 14,_ =>
  obtain ⟨g1,g2⟩:=both (show some (2,0)=some (a.length,xs.length) from hs)
  obtain ⟨x,y,rfl⟩:=l2 g1
  obtain rfl:=l0 g2
  exact h14 _ _
 | 15,_ =>
  obtain ⟨g1,g2⟩:=both (show some (1,0)=some (a.length,xs.length) from hs)
  obtain ⟨x,rfl⟩:=l1 g1
  obtain rfl:=l0 g2
  exact h15 _
 | 16,_ =>
  obtain ⟨g1,g2⟩:=both (show some (1,0)=some (a.length,xs.length) from hs)
  obtain ⟨x,rfl⟩:=l1 g1
  obtain rfl:=l0 g2
  exact h16 _
 | 17,_ =>
  obtain ⟨g1,g2⟩:=both (show some (2,0)=some (a.length,xs.length) from hs)
  obtain ⟨x,y,rfl⟩:=l2 g1
  obtain rfl:=l0 g2
  exact h17 _ _
 | 18,_ =>
  obtain ⟨g1,g2⟩:=both (show some (2,0)=some (a.length,xs.length) from hs)
  obtain ⟨x,y,rfl⟩:=l2 g1
  obtain rfl:=l0 g2
  exact h18 _ _
 | 19,_ =>
  obtain ⟨g1,g2⟩:=both (show some (2,0)=some (a.length,xs.length) from hs)
  obtain ⟨x,y,rfl⟩:=l2 g1
  obtain rfl:=l0 g2
  exact h19 _ _
 | 20,_ =>
  obtain ⟨g1,g2⟩:=both (show some (2,0)=some (a.length,xs.length) from hs)
  obtain ⟨x,y,rfl⟩:=l2 g1
  obtain rfl:=l0 g2
  exact h20 _ _
 | 21,_ =>
  obtain ⟨g1,g2⟩:=both (show some (1,0)=some (a.length,xs.length) from hs)
  obtain ⟨x,rfl⟩:=l1 g1
  obtain rfl:=l0 g2
  exact h21 _
 | 22,_ =>
  obtain ⟨g1,g2⟩:=both (show some (1,0)=some (a.length,xs.length) from hs)
  obtain ⟨x,rfl⟩:=l1 g1
  obtain rfl:=l0 g2
  exact h22 _
 | 23,_ =>
  obtain ⟨g1,g2⟩:=both (show some (1,0)=some (a.length,xs.length) from hs)
  obtain ⟨x,rfl⟩:=l1 g1
  obtain rfl:=l0 g2
  exact h23 _
 | 24,_ =>
  obtain ⟨g1,g2⟩:=both (show some (1,0)=some (a.length,xs.length) from hs)
  obtain ⟨x,rfl⟩:=l1 g1
  obtain rfl:=l0 g2
  exact h24 _
 | 25,_ =>
  obtain ⟨g1,g2⟩:=both (show some (0,0)=some (a.length,xs.length) from hs)
  obtain rfl:=l0 g1
  obtain rfl:=l0 g2
  exact h25
 | 26,_ =>
  obtain ⟨g1,g2⟩:=both (show some (0,0)=some (a.length,xs.length) from hs)
  obtain rfl:=l0 g1
  obtain rfl:=l0 g2
  exact h26
 | 27,_ =>
  obtain ⟨g1,g2⟩:=both (show some (0,0)=some (a.length,xs.length) from hs)
  obtain rfl:=l0 g1
  obtain rfl:=l0 g2
  exact h27
 | 28,_ =>
  obtain ⟨g1,g2⟩:=both (show some (0,0)=some (a.length,xs.length) from hs)
  obtain rfl:=l0 g1
  obtain rfl:=l0 g2
  exact h28
 | 29,_ =>
  obtain ⟨g1,g2⟩:=both (show some (0,0)=some (a.length,xs.length) from hs)
  obtain rfl:=l0 g1
  obtain rfl:=l0 g2
  exact h29
 | 30,_ =>
  obtain ⟨g1,g2⟩:=both (show some (0,0)=some (a.length,xs.length) from hs)
  obtain rfl:=l0 g1
  obtain rfl:=l0 g2
  exact h30
theorem asked1_enc {c:List (List Int)} (ok:PyFlat.okCall PyKm415.shape c):Told c:=by_shape (C:=Told) (tl0 (f:=.start) rfl rfl trivial (by decide)) (fun _ _ _ _=>told1) (fun _ _ _=>told2) (tl2 (f:=.car) (fun _ _=>rfl) (fun _ _=>rfl) (fun _ _=>trivial) (fun _ _=>rfl) (by decide)) (tl1 (f:=.drain) (fun _=>rfl) (fun _=>rfl) (fun _=>trivial) (fun _=>rfl) (by decide)) (tl2 (f:=.off_) (fun _ _=>rfl) (fun _ _=>rfl) (fun _ _=>trivial) (fun _ _=>rfl) (by decide)) (tl2 (f:=.strip) (fun _ _=>rfl) (fun _ _=>rfl) (fun _ _=>trivial) (fun _ _=>rfl) (by decide)) (tl2 (f:=.gather_) (fun _ _=>rfl) (fun _ _=>rfl) (fun _ _=>trivial) (fun _ _=>rfl) (by decide)) (tl2 (f:=.sell) (fun _ _=>rfl) (fun _ _=>rfl) (fun _ _=>trivial) (fun _ _=>rfl) (by decide)) (tl1 (f:=.crush) (fun _=>rfl) (fun _=>rfl) (fun _=>trivial) (fun _=>rfl) (by decide)) (tl1 (f:=.cart) (fun _=>rfl) (fun _=>rfl) (fun _=>trivial) (fun _=>rfl) (by decide)) (tl2 (f:=.pump) (fun _ _=>rfl) (fun _ _=>rfl) (fun _ _=>trivial) (fun _ _=>rfl) (by decide)) (fun _ _ _=>told12) (tl2 (f:=.closure) (fun _ _=>rfl) (fun _ _=>rfl) (fun _ _=>trivial) (fun _ _=>rfl) (by decide)) (tl2 (f:=.may) (fun _ _=>rfl) (fun _ _=>rfl) (fun _ _=>trivial) (fun _ _=>rfl) (by decide)) (tl1 (f:=.next) (fun _=>rfl) (fun _=>rfl) (fun _=>trivial) (fun _=>rfl) (by decide)) (tl1 (f:=.look) (fun _=>rfl) (fun _=>rfl) (fun _=>trivial) (fun _=>rfl) (by decide)) (tl2 (f:=.find) (fun _ _=>rfl) (fun _ _=>rfl) (fun _ _=>trivial) (fun _ _=>rfl) (by decide)) (tl2 (f:=.from_) (fun _ _=>rfl) (fun _ _=>rfl) (fun _ _=>trivial) (fun _ _=>rfl) (by decide)) (tl2 (f:=.gather) (fun _ _=>rfl) (fun _ _=>rfl) (fun _ _=>trivial) (fun _ _=>rfl) (by decide)) (tl2 (f:=.lacking) (fun _ _=>rfl) (fun _ _=>rfl) (fun _ _=>trivial) (fun _ _=>rfl) (by decide)) (tl1 (f:=.part) (fun _=>rfl) (fun _=>rfl) (fun _=>trivial) (fun _=>rfl) (by decide)) (tl1 (f:=.count) (fun _=>rfl) (fun _=>rfl) (fun _=>trivial) (fun _=>rfl) (by decide)) (tl1 (f:=.alike) (fun _=>rfl) (fun _=>rfl) (fun _=>trivial) (fun _=>rfl) (by decide)) (tl1 (f:=.harm) (fun _=>rfl) (fun _=>rfl) (fun _=>trivial) (fun _=>rfl) (by decide)) (tl0 (f:=.weights) rfl rfl trivial (by decide)) (tl0 (f:=.litres) rfl rfl trivial (by decide)) (tl0 (f:=.money) rfl rfl trivial (by decide)) (tl0 (f:=.back) rfl rfl trivial (by decide)) (tl0 (f:=.again) rfl rfl trivial (by decide)) (tl0 (f:=.state) rfl rfl trivial (by decide)) ok
theorem whole_id {c:List (List Int)} (ok:PyFlat.okCall PyKm415.shape c):PyKm415.whole c=c:=by_shape (C:=fun c=>PyKm415.whole c=c) rfl (fun _ _ _ _=>rfl) (fun _ _ _=>rfl) (fun _ _=>rfl) (fun _=>rfl) (fun _ _=>rfl) (fun _ _=>rfl) (fun _ _=>rfl) (fun _ _=>rfl) (fun _=>rfl) (fun _=>rfl) (fun _ _=>rfl) (fun _ _ _=>rfl) (fun _ _=>rfl) (fun _ _=>rfl) (fun _=>rfl) (fun _=>rfl) (fun _ _=>rfl) (fun _ _=>rfl) (fun _ _=>rfl) (fun _ _=>rfl) (fun _=>rfl) (fun _=>rfl) (fun _=>rfl) (fun _=>rfl) rfl rfl rfl rfl rfl rfl ok
def playD:Desk→List Call→List (List Int)
 | _,[]=>[]
 | d,x::xs=>Km415Neutral.told (act d x).2::playD (act d x).1 xs
theorem played_some:∀(cs:List (List (List Int))) (d:Desk),(∀c∈cs,PyFlat.okCall PyKm415.shape c∧Km415Neutral.asked1 c=true)→∃xs:List Call,cs=xs.map enc∧(∀x∈xs,CallIn x)∧PyFlat.played Km415Neutral.step (some d) cs=playD d xs
 | [],d,_=>⟨[],rfl,fun _ h=>(by cases h),rfl⟩
 | c::cs,d,h=>by
  obtain ⟨x,h1,h2,h3⟩:=asked1_enc (h c (by simp)).1 (h c (by simp)).2
  have e:Km415Neutral.step (some d) c=(some (act d x).1,Km415Neutral.told (act d x).2):=by
   unfold Km415Neutral.step
   rw [h1]
  obtain ⟨xs,k1,k2,k3⟩:=played_some cs (act d x).1 fun c hc=>h c (by simp [hc])
  refine ⟨x::xs,by rw [List.map_cons,h2,k1],fun y hy=>?_,?_⟩
  ·rcases List.mem_cons.mp hy with rfl | hy
   ·exact h3
   ·exact k2 y hy
  ·show (Km415Neutral.step (some d) c).2::PyFlat.played Km415Neutral.step (Km415Neutral.step (some d) c).1 cs=Km415Neutral.told (act d x).2::playD (act d x).1 xs
   rw [e,k3]
theorem face {l:List Int} (h:PyKm415.answers_asked l=true):∃xs:List Call,l=PyFlat.put ((Call.start::xs).map enc)∧xs.length < 1000∧(∀x∈xs,CallIn x)∧PyKm415.answers l=PyFlat.told (playD fresh (Call.start::xs)):=by
 unfold PyKm415.answers_asked at h
 unfold PyKm415.answers PyKm415.calls
 cases e:PyFlat.calls PyKm415.shape l.length l with
 | none=>rw [e] at h;cases h
 | some raw =>
  simp only [e] at h
  simp only []
  have hid:raw.map PyKm415.whole=raw:=by
   have hp:=(PyFlat.put_calls _ _ _ e).2
   exact (List.map_congr_left fun c hc=>whole_id (hp c hc)).trans (List.map_id _)
  rw [hid] at h ⊢
  simp only [Bool.and_eq_true] at h
  obtain ⟨⟨⟨⟨_,_⟩,_⟩,ha⟩,_⟩:=h
  have hp:=(PyFlat.put_calls _ _ _ e).1
  have hok:=(PyFlat.put_calls _ _ _ e).2
  unfold Km415Neutral.asked at ha
  simp only [Bool.and_eq_true,decide_eq_true_eq] at ha
  obtain ⟨h1,h2,h3,h4⟩:=ha
  have h3':=List.all_eq_true.mp h3
  cases raw with
  | nil=>simp at h1
  | cons c cs =>
   obtain ⟨x,k1,k2,k3⟩:=asked1_enc (hok c (by simp)) (h3' c (by simp))
   have hstart:x=.start:=by
    unfold Km415Neutral.may at h4
    rw [Bool.and_eq_true] at h4
    have h5:=h4.1
    unfold Km415Neutral.step Km415Neutral.start at h5
    rw [k1] at h5
    cases x <;> first | rfl | (exfalso;revert h5;simp [Km415Neutral.isStart])
   subst hstart
   have es:Km415Neutral.step Km415Neutral.start c=(some (act fresh .start).1,Km415Neutral.told (act fresh .start).2):=by
    unfold Km415Neutral.step Km415Neutral.start
    rw [k1]
    rfl
   obtain ⟨xs,m1,m2,m3⟩:=played_some cs (act fresh .start).1 fun c hc=>⟨hok c (by simp [hc]),h3' c (by simp [hc])⟩
   refine ⟨xs,?_,?_,m2,?_⟩
   ·rw [hp,List.map_cons,k2,m1]
   ·rw [List.length_cons] at h2
    have:cs.length=xs.length:=by rw [m1,List.length_map]
    omega
   ·congr 1
    show (Km415Neutral.step Km415Neutral.start c).2::PyFlat.played Km415Neutral.step (Km415Neutral.step Km415Neutral.start c).1 cs=Km415Neutral.told (act fresh .start).2::playD (act fresh .start).1 xs
    rw [es,m3]
end Y58
namespace L2
open PySem PySem.Spec PyProof.Rows
abbrev Key:=Sum Int Str
def keyIs:Key→Value→Bool
 | .inl k,v=>Value.isInt k v
 | .inr x,v=>Value.isStrOf x v
def keyH (w:World):Key→Int
 | .inl k=>hashInt k
 | .inr x=>hashStr w x
theorem keyIs_shape:∀{k:Key} {v:Value},keyIs k v=true→(∃i t,k=Sum.inl i∧v=Value.int i t)∨(∃x t,k=Sum.inr x∧v=Value.str x t)
 | .inl i,v,h=>by
  obtain ⟨t,e⟩:=Value.isInt_shape (k:=i) (v:=v) h
  exact .inl ⟨i,t,rfl,e⟩
 | .inr x,v,h=>by
  obtain ⟨t,e⟩:=Value.isStrOf_shape (x:=x) (v:=v) h
  exact .inr ⟨x,t,rfl,e⟩
theorem keyIs_int (i:Int) (t:Tok):keyIs (.inl i) (.int i t)=true:=by simp [keyIs,Value.isInt]
theorem keyIs_str (x:Str) (t:Tok):keyIs (.inr x) (.str x t)=true:=by simp [keyIs,Value.isStrOf]
theorem key_ll (a b:Int):decide ((Sum.inl a:Key)=Sum.inl b)=(a==b):=by
 by_cases e:a=b
 ·subst e;simp
 ·have h:¬ (Sum.inl a:Key)=Sum.inl b:=fun q=>e (Sum.inl.inj q)
  rw [decide_eq_false h]
  exact (beq_eq_false_iff_ne.mpr e).symm
theorem key_rr (a b:Str):decide ((Sum.inr a:Key)=Sum.inr b)=decide (a=b):=by
 by_cases e:a=b
 ·subst e;simp
 ·have h:¬ (Sum.inr a:Key)=Sum.inr b:=fun q=>e (Sum.inr.inj q)
  rw [decide_eq_false h,decide_eq_false e]
theorem key_lr (a:Int) (b:Str):decide ((Sum.inl a:Key)=Sum.inr b)=false:=decide_eq_false (fun q=>nomatch q)
theorem key_rl (a:Str) (b:Int):decide ((Sum.inr a:Key)=Sum.inl b)=false:=decide_eq_false (fun q=>nomatch q)
def mixKind (prog:Program) (w:World):PySem.KeyKind prog w Key where
 is:=keyIs
 hash:=keyH w
 inj:=fun v a b ha hb=>by
  rcases keyIs_shape ha with ⟨i,t,rfl,rfl⟩ | ⟨x,t,rfl,rfl⟩
  ·rcases keyIs_shape hb with ⟨j,u,rfl,e⟩ | ⟨y,u,rfl,e⟩
   ·injection e with e1 _;rw [e1]
   ·exact nomatch e
  ·rcases keyIs_shape hb with ⟨j,u,rfl,e⟩ | ⟨y,u,rfl,e⟩
   ·exact nomatch e
   ·injection e with e1 _;rw [e1]
 byValue:=fun k v h=>by
  rcases keyIs_shape h with ⟨i,t,rfl,rfl⟩ | ⟨x,t,rfl,rfl⟩ <;> rfl
 pyHash:=fun hv h=>by
  rcases keyIs_shape hv with ⟨i,t,rfl,rfl⟩ | ⟨x,t,rfl,rfl⟩
  ·exact wpAny_pyHash_int h
  ·exact wpAny_pyHash_str h
 eqBool:=fun hu hv h=>by
  rcases keyIs_shape hu with ⟨i,t,rfl,rfl⟩ | ⟨x,t,rfl,rfl⟩
  ·rcases keyIs_shape hv with ⟨j,u,rfl,rfl⟩ | ⟨y,u,rfl,rfl⟩
   ·rw [key_ll] at h;exact wpAny_eqBool_int h
   ·rw [key_lr] at h;exact SeqAt.EqAt.int_str i t y u _ _ _ _ h
  ·rcases keyIs_shape hv with ⟨j,u,rfl,rfl⟩ | ⟨y,u,rfl,rfl⟩
   ·rw [key_rl] at h;exact SeqAt.EqAt.str_int x t j u _ _ _ _ h
   ·rw [key_rr] at h;exact wpAny_eqBool_str h
 «strs»:=fun k x t v h=>by
  rcases keyIs_shape h with ⟨i,u,rfl,e⟩ | ⟨y,u,rfl,e⟩
  ·exact nomatch e
  ·injection e with e1 _
   subst e1
   cases v <;> rfl
theorem mixKind_int (prog:Program) (w:World) (i:Int) (t:Tok):(mixKind prog w).is (.inl i) (.int i t)=true:=keyIs_int i t
theorem mixKind_str (prog:Program) (w:World) (x:Str) (t:Tok):(mixKind prog w).is (.inr x) (.str x t)=true:=keyIs_str x t
end L2
namespace L2
open PySem PySem.Spec PyProof.Rows
inductive V where
 | non | bl (b:Bool) | int (i:Int) | str (x:Str) | byt (b:Array UInt8) | flt (b:UInt64) | ref (a:Addr) | ty (n:String)
 deriving DecidableEq
def RelV:V→Value→Prop
 | .non,u=>u=Value.none
 | .bl b,u=>u=Value.bool b
 | .int i,u=>∃t,u=Value.int i t
 | .str x,u=>∃t,u=Value.str x t
 | .byt b,u=>∃t,u=Value.bytes b t
 | .flt b,u=>∃t,u=Value.float b t
 | .ref a,u=>u=Value.ref a
 | .ty n,u=>u=Value.type n
abbrev Vals:List V→List Value→Prop:=Paired RelV
theorem Vals.length {xs:List V} {us:List Value} (r:Vals xs us):xs.length=us.length:=Paired.length r
theorem Vals.get:∀{xs:List V} {us:List Value} {i:Nat} {x:V},Vals xs us→xs[i]?=some x→∃u,us[i]?=some u∧RelV x u
 | _,_,_,_,.nil,e=>by simp at e
 | _,_,0,_,.cons r _,e=>by simp at e;subst e;exact ⟨_,rfl,r⟩
 | _,_,i+1,x,.cons _ t,e=>by
  obtain ⟨u,h1,h2⟩:=Vals.get (i:=i) (x:=x) t (by simpa using e)
  exact ⟨u,by simpa using h1,h2⟩
theorem Vals.set {x:V} {u:Value} (r:RelV x u):∀{xs:List V} {us:List Value} (i:Nat),Vals xs us→Vals (xs.set i x) (us.set i u)
 | _,_,_,.nil=>.nil
 | _,_,0,.cons _ t=>.cons r t
 | _,_,i+1,.cons q t=>.cons q (Vals.set r i t)
theorem Vals.append:∀{xs ys:List V} {us ws:List Value},Vals xs us→Vals ys ws→Vals (xs++ys) (us++ws)
 | _,_,_,_,.nil,s=>s
 | _,_,_,_,.cons r t,s=>.cons r (Vals.append t s)
theorem Vals.take:∀{xs:List V} {us:List Value} (n:Nat),Vals xs us→Vals (xs.take n) (us.take n)
 | _,_,0,_=>.nil
 | _,_,_+1,.nil=>.nil
 | _,_,n+1,.cons r t=>.cons r (Vals.take n t)
theorem Vals.drop:∀{xs:List V} {us:List Value} (n:Nat),Vals xs us→Vals (xs.drop n) (us.drop n)
 | _,_,0,r=>r
 | _,_,_+1,.nil=>.nil
 | _,_,n+1,.cons _ t=>Vals.drop n t
def RelO:Option V→Option Value→Prop
 | some v,some u=>RelV v u
 | none,none=>True
 | _,_=>False
def KV {κ:Type}:List (κ×V)→List (κ×Value)→Prop:=Paired fun (p:κ×V) (q:κ×Value)=>p.1=q.1∧RelV p.2 q.2
def kV:Key→V
 | .inl i=>.int i
 | .inr x=>.str x
inductive HO where
 | lst (xs:List V)
 | tup (xs:List V)
 | dK (kvs:List (Key×V)) | dT (kvs:List (List Key×V))
 | set (S:Int→Bool) (n:Nat)
 | ins (C dx:Addr) (fs:List (Str×V))
 | own (x:Addr)
 | xd (fs:List (Str×V))
 | met (f x:Addr)
 | rng (lo hi:Int)
 | frz (o:Obj) (u:HO)
 | tbl (ps:Array Value)
 | ext (φ:Heap→Prop)
abbrev Hp:=Addr→Option HO
def upd (H:Hp) (a:Addr) (o:HO):Hp:=fun b=>if b=a then some o else H b
theorem upd_same {H:Hp} {a:Addr} {o:HO}:upd H a o a=some o:=by unfold upd;rw [if_pos rfl]
theorem upd_ne {H:Hp} {a b:Addr} {o:HO} (h:b≠a):upd H a o b=H b:=by unfold upd;rw [if_neg h]
theorem ne_of {H:Hp} {a b:Addr} {o u:HO} (h:H a=some o) (h':H b=some u) (d:o≠u):a≠b:=by
 intro e;subst e;rw [h] at h';exact d (Option.some.inj h')
theorem ne_of_none {H:Hp} {a b:Addr} {o:HO} (h:H a=some o) (h':H b=none):a≠b:=by
 intro e;subst e;rw [h] at h';cases h'
section
variable (P:Program) (w:World)
def ObjOk (H:Hp) (h:Heap) (a:Addr):HO→Prop
 | .lst xs=>xs.length≤sizeLine∧∃(its:List Value) (n:Nat),Vals xs its∧h.get? a=some { cls:=.type "list",data:=.seq its.toArray n }
 | .tup xs=>xs.length≤sizeLine∧∃its:List Value,Vals xs its∧IsTup h a its.toArray
 | .dK kvs=>kvs.length≤sizeLine∧(a==sysModules)=false∧∃vs,KV kvs vs∧h.DictOf (mixKind P w) a vs
 | .dT kvs=>kvs.length≤sizeLine∧(a==sysModules)=false∧∃xs:List (List Key×Addr×Value),
   Paired (fun (p:List Key×V) (q:List Key×Addr×Value)=>p.1=q.1∧H q.2.1=some (.tup (p.1.map kV))∧RelV p.2 q.2.2) kvs xs ∧
   ∃o es ep,h.get? a=some o∧o.ExactDict∧o.data=.dict es ep∧es.toList=xs.map (entryOfKey (tupleKind (mixKind P w)))∧(xs.map (·.1)).Nodup
 | .set S n=>h.SetOf (intKind P w) a S n
 | .ins C dx fs=>H dx=some (.own a)∧fs.length≤1000∧dx≠a∧h.get? a=some (PySem.W.instObj C dx) ∧
   ∃mA,h.Ns1 dx mA∧(∀f,RelO (fs.lookup f) (mA f))∧PySem.Within mA (fs.map (·.1))
 | .own _=>∃o,h.get? a=some o
 | .xd fs=>∃mA,h.Ns1 a mA∧∀f,RelO (fs.lookup f) (mA f)
 | .rng lo hi=>∃t u v,h.get? a=some { cls:=.type "range",data:=.fields #[.int lo t,.int hi u,.int 1 v] }
 | .frz o u=>h.get? a=some o∧ObjOk H h a u
 | .tbl ps=>h.get? a=some { cls:=.none,data:=.fields ps }
 | .met f x=>h.get? a=some (PySem.W.methodObj (.ref f) (.ref x))
 | .ext φ=>φ h∧(∃o,h.get? a=some o)∧∀h1 h2:Heap,φ h1→(∀o,h1.get? a=some o→h2.get? a=some o)→φ h2
def HOk (H:Hp) (h:Heap):Prop:=∀a o,H a=some o→ObjOk P w H h a o
end
section
variable {P:Program} {w:World} {H H':Hp} {h h':Heap} {a:Addr} {o:HO}
theorem ObjOk.lt (x:ObjOk P w H h a o):a < h.objs.size:=by
 cases o with
 | lst xs=>obtain ⟨_,_,_,_,e⟩:=x;exact Heap.lt_size e
 | tup xs=>obtain ⟨_,_,_,p⟩:=x;exact p.lt
 | dK kvs=>obtain ⟨_,_,_,_,o,_,_,e,_⟩:=x;exact Heap.lt_size e
 | dT kvs=>obtain ⟨_,_,_,_,o,_,_,e,_⟩:=x;exact Heap.lt_size e
 | set S n=>obtain ⟨o,_,_,_,e,_⟩:=x;exact Heap.lt_size e
 | ins C dx fs=>obtain ⟨_,_,_,e,_⟩:=x;exact Heap.lt_size e
 | own y=>obtain ⟨_,e⟩:=x;exact Heap.lt_size e
 | xd fs=>obtain ⟨_,⟨_,_,_,e,_⟩,_⟩:=x;exact Heap.lt_size e
 | rng lo hi=>obtain ⟨_,_,_,e⟩:=x;exact Heap.lt_size e
 | frz ob u=>obtain ⟨e,_⟩:=x;exact Heap.lt_size e
 | tbl ps=>exact Heap.lt_size (show h.get? a=some _ from x)
 | met f y=>exact Heap.lt_size (show h.get? a=some _ from x)
 | ext φ=>obtain ⟨_,⟨_,e⟩,_⟩:=x;exact Heap.lt_size e
theorem Paired.mapP {α β:Type} {F G:α→β→Prop}:∀{l₁:List α} {l₂:List β},Paired F l₁ l₂→(∀a b,F a b→G a b)→Paired G l₁ l₂
 | _,_,.nil,_=>.nil
 | _,_,.cons r t,f=>.cons (f _ _ r) (Paired.mapP t f)
theorem ObjOk.stay (x:ObjOk P w H h a o) (k:∀b u,(b=a∨H b=some (.own a))→h.get? b=some u→h'.get? b=some u)
  (ho:∀b,H b=some (.own a)→H' b=some (.own a)) (ht:∀b xs,H b=some (.tup xs)→H' b=some (.tup xs)):ObjOk P w H' h' a o:=by
 induction o with
 | lst xs=>obtain ⟨z,its,n,r,e⟩:=x;exact ⟨z,its,n,r,k _ _ (.inl rfl) e⟩
 | tup xs=>obtain ⟨z,its,r,ob,e,c⟩:=x;exact ⟨z,its,r,ob,k _ _ (.inl rfl) e,c⟩
 | dK kvs=>obtain ⟨z,y,vs,r,ob,es,ep,e,c⟩:=x;exact ⟨z,y,vs,r,ob,es,ep,k _ _ (.inl rfl) e,c⟩
 | dT kvs =>
  obtain ⟨z,y,xs,r,ob,es,ep,e,c⟩:=x
  exact ⟨z,y,xs,Paired.mapP r fun p q z=>⟨z.1,ht _ _ z.2.1,z.2.2⟩,ob,es,ep,k _ _ (.inl rfl) e,c⟩
 | set S n=>obtain ⟨ob,es,ep,t,e,c⟩:=x;exact ⟨ob,es,ep,t,k _ _ (.inl rfl) e,c⟩
 | ins C dx fs =>
  obtain ⟨d,z,ne,e,mA,⟨od,es,ep,e2,c⟩,r⟩:=x
  exact ⟨ho _ d,z,ne,k _ _ (.inl rfl) e,mA,⟨od,es,ep,k _ _ (.inr d) e2,c⟩,r⟩
 | own y=>obtain ⟨ob,e⟩:=x;exact ⟨ob,k _ _ (.inl rfl) e⟩
 | xd fs=>obtain ⟨mA,⟨od,es,ep,e,c⟩,r⟩:=x;exact ⟨mA,⟨od,es,ep,k _ _ (.inl rfl) e,c⟩,r⟩
 | rng lo hi=>obtain ⟨t,u,v,e⟩:=x;exact ⟨t,u,v,k _ _ (.inl rfl) e⟩
 | frz ob u ih=>obtain ⟨e,q⟩:=x;exact ⟨k _ _ (.inl rfl) e,ih q⟩
 | tbl ps =>
  have e:h.get? a=some { cls:=.none,data:=.fields ps }:=x
  show h'.get? a=some { cls:=.none,data:=.fields ps }
  exact k a _ (.inl rfl) e
 | met f y =>
  have e:h.get? a=some (PySem.W.methodObj (.ref f) (.ref y)):=x
  show h'.get? a=some (PySem.W.methodObj (.ref f) (.ref y))
  exact k a _ (.inl rfl) e
 | ext φ=>obtain ⟨p,⟨o,e⟩,st⟩:=x;exact ⟨st _ _ p fun o q=>k _ _ (.inl rfl) q,⟨o,k _ _ (.inl rfl) e⟩,st⟩
theorem HOk.lt (x:HOk P w H h) (e:H a=some o):a < h.objs.size:=(x a o e).lt
theorem HOk.fresh (x:HOk P w H h) (e:h.objs.size≤a):H a=none:=by
 cases q:H a with
 | none=>rfl
 | some u=>exact absurd (Nat.lt_of_lt_of_le (x.lt q) e) (Nat.lt_irrefl _)
theorem HOk.kept (x:HOk P w H h) (k:∀b u,h.get? b=some u→h'.get? b=some u):HOk P w H h':=fun a o e =>
 (x a o e).stay (fun b u _ q=>k b u q) (fun _ q=>q) fun _ _ q=>q
theorem HOk.laid (x:HOk P w H h) (k:∀b u,h.get? b=some u→h'.get? b=some u) (hp:h.objs.size≤a) (new:ObjOk P w (upd H a o) h' a o):HOk P w (upd H a o) h':=fun b u e=>by
 have hn:=x.fresh hp
 by_cases hb:b=a
 ·subst hb;rw [upd_same] at e;cases e;exact new
 ·rw [upd_ne hb] at e
  exact (x b u e).stay (fun c v _ q=>k c v q) (fun c q=>by rw [upd_ne (ne_of_none q hn)];exact q) fun c xs q=>by rw [upd_ne (ne_of_none q hn)];exact q
end
def Rd (H:Hp) (a:Addr) (u:HO):Prop:=H a=some u∨∃o,H a=some (.frz o u)
theorem Rd.ok {P:Program} {w:World} {H:Hp} {h:Heap} {a:Addr} {u:HO} (r:Rd H a u) (x:HOk P w H h):ObjOk P w H h a u:=by
 rcases r with r | ⟨o,r⟩
 ·exact x a u r
 ·obtain ⟨_,q⟩:=x a _ r
  exact q
def Mut:Option HO→Prop
 | some (.lst _)=>True
 | some (.dK _)=>True
 | some (.dT _)=>True
 | some (.set _ _)=>True
 | some (.ins _ _ _)=>True
 | some (.ext _)=>True
 | _=>False
section
variable {P:Program} {w:World} {H:Hp} {h h':Heap} {x e:Addr} {o':HO}
theorem HOk.write (ok:HOk P w H h) (mu:Mut (H x)) (he:e=x∨H e=some (.own x)) (k:∀b u,b≠e→h.get? b=some u→h'.get? b=some u) (heo:∃u,h'.get? e=some u)
  (new:ObjOk P w (upd H x o') h' x o'):HOk P w (upd H x o') h':=fun b u q=>by
 have nown:∀c y,H c=some (.own y)→c≠x:=fun c y r z=>by subst z;rw [r] at mu;exact mu
 have ntup:∀c xs,H c=some (.tup xs)→c≠x:=fun c xs r z=>by subst z;rw [r] at mu;exact mu
 by_cases hb:b=x
 ·subst hb;rw [upd_same] at q;cases q;exact new
 ·rw [upd_ne hb] at q
  by_cases hbe:b=e
  ·have q':H b=some (.own x):=by
    rcases he with z | z
    ·exact absurd (hbe.trans z) hb
    ·rw [hbe];exact z
   rw [q] at q';cases q'
   obtain ⟨v,hv⟩:=heo
   exact ⟨v,by rw [hbe];exact hv⟩
  ·refine (ok b u q).stay (fun c v hc r=>k c v ?_ r) (fun c r=>by rw [upd_ne (nown c b r)];exact r) fun c xs r=>by rw [upd_ne (ntup c xs r)];exact r
   rcases hc with rfl | hc
   ·exact hbe
   ·rintro rfl
    rcases he with z | z
    ·exact nown c b hc z
    ·rw [hc] at z;cases z;exact hb rfl
end
structure Un (fs ex:List Addr) (H H':Hp) (h h':Heap):Prop where
 keep:∀b o,h.get? b=some o→H b=none→b ∉ fs→b ∉ ex→h'.get? b=some o
 slot:∀b o,h.get? b=some o→H b=none→b∈fs→b ∉ ex→∃sl,h'.get? b=some { o with slots:=sl }
 free:∀b o,h.get? b=some o→H b=none→b ∉ ex→H' b=none
 there:∀b o,h.get? b=some o→b ∉ ex→∃o',h'.get? b=some o'
 tups:∀b xs,H b=some (.tup xs)→H' b=some (.tup xs)
 frzs:∀b o u,H b=some (.frz o u)→H' b=some (.frz o u)
 tbls:∀b ps,H b=some (.tbl ps)→∃more,H' b=some (.tbl (ps++more))
section
variable {fs fs' ex ex':List Addr} {H H1 H2:Hp} {h h1 h2 h':Heap} {a x e:Addr} {o:HO}
theorem Un.any (u:Un fs ex H H1 h h1) {b:Addr} {ob:Obj} (q:h.get? b=some ob) (n:H b=none) (hx:b ∉ ex):∃sl,h1.get? b=some { ob with slots:=sl }:=by
 by_cases hb:b∈fs
 ·exact u.slot b ob q n hb hx
 ·exact ⟨ob.slots,u.keep b ob q n hb hx⟩
theorem Un.kept (k:∀b u,h.get? b=some u→h'.get? b=some u):Un fs ex H H h h' :=
 ⟨fun b ob q _ _ _=>k b ob q,fun b ob q _ _ _=>⟨ob.slots,k b ob q⟩,fun _ _ _ n _=>n,fun b ob q _=>⟨ob,k b ob q⟩,fun _ _ q=>q,fun _ _ _ q=>q,fun _ ps q=>⟨#[],by rw [q];simp⟩⟩
theorem Un.refl:Un fs ex H H h h:=Un.kept fun _ _ q=>q
theorem Un.laid (k:∀b u,h.get? b=some u→h'.get? b=some u) (hp:h.objs.size≤a) (hn:H a=none):Un fs ex H (upd H a o) h h' where
 keep:=fun b u q _ _ _=>k b u q
 slot:=fun b u q _ _ _=>⟨u.slots,k b u q⟩
 free:=fun b u q n _=>by rw [upd_ne (Nat.ne_of_lt (Nat.lt_of_lt_of_le (Heap.lt_size q) hp))];exact n
 there:=fun b u q _=>⟨u,k b u q⟩
 tups:=fun b xs q=>by rw [upd_ne (ne_of_none q hn)];exact q
 frzs:=fun b u xs q=>by rw [upd_ne (ne_of_none q hn)];exact q
 tbls:=fun b ps q=>⟨#[],by rw [upd_ne (ne_of_none q hn),q];simp⟩
theorem Un.write (mu:Mut (H x)) (he:e=x∨H e=some (.own x)) (k:∀b u,b≠e→h.get? b=some u→h'.get? b=some u) (heo:∃u,h'.get? e=some u):Un fs ex H (upd H x o) h h':=by
 have hx:∀b,H b=none→b≠x:=fun b n z=>by subst z;rw [n] at mu;exact mu
 have hb:∀b,H b=none→b≠e:=fun b n z=>by
  subst z
  rcases he with r | r
  ·exact hx b n r
  ·rw [n] at r;cases r
 have hm:∀b u,H b=some u→¬ Mut (some u)→b≠x:=fun b u q nm z=>by subst z;rw [q] at mu;exact nm mu
 refine ⟨fun b u q n _ _=>k b u (hb b n) q,fun b u q n _ _=>⟨u.slots,k b u (hb b n) q⟩,fun b u q n _=>by rw [upd_ne (hx b n)];exact n,fun b u q _=>?_,
  fun b xs q=>by rw [upd_ne (hm b _ q fun z=>z)];exact q,fun b u xs q=>by rw [upd_ne (hm b _ q fun z=>z)];exact q,fun b ps q=>⟨#[],by rw [upd_ne (hm b _ q fun z=>z),q];simp⟩⟩
 by_cases hbe:b=e
 ·subst hbe;exact heo
 ·exact ⟨u,k b u hbe q⟩
end
def trk (h:Heap) (H:Hp):List Addr:=(List.range h.objs.size).filter fun a=>(H a).isSome
def hidT (h:Heap) (H:Hp):Heap:=PySem.W.hideAll h (trk h H)
theorem hidT_size (h:Heap) (H:Hp):(hidT h H).objs.size=h.objs.size:=PySem.W.hideAll_size _ _
theorem hidT_get {h:Heap} {H:Hp} {b:Addr} {o:Obj} (e:h.get? b=some o) (n:H b=none):(hidT h H).get? b=some o :=
 PySem.W.hideAll_get _ e fun hm=>by
  have q:(H b).isSome=true:=(List.mem_filter.mp hm).2
  rw [n] at q;simp at q
theorem of_hidT {h:Heap} {H:Hp} {b:Addr} {o:Obj} (e:(hidT h H).get? b=some o):h.get? b=some o∧H b=none:=by
 have e':h.get? b=some o:=PySem.W.of_hideAll (trk h H) e
 refine ⟨e',?_⟩
 cases q:H b with
 | none=>rfl
 | some x =>
  have hm:b∈trk h H:=List.mem_filter.mpr ⟨List.mem_range.mpr (Heap.lt_size e'),by simp [q]⟩
  have z:(hidT h H).get? b=none:=PySem.W.hideAll_none (trk h H) hm
  rw [z] at e;cases e
end L2
namespace L2
open PySem PySem.Spec PyProof.Rows
structure Mod (K:PySem.W.Frag) (mg:Str→Option Value) (base:Heap):Prop where
 kin:K.In base
 glob:base.Ns mainGlobals mg
 blt:∃mb,base.Ns builtinsNs mb∧∀x:Str,x≠"__name__"→mb x=bootBuiltins x
 nolimit:base.NoLimit
structure Cx where
 prog:Program
 w:World
 K:PySem.W.Frag
 mg:Str→Option Value
 base:Heap
 A:Around
 N:List Str
 s_0:Shared
 H_0:Hp
 env:Env
 outer:List Env
 stack:List Env
 ex:List Addr
 fn:Str→Bool
 calm:Bool
 pn:List (Addr×Obj)
 xe:Value→Shared→Prop
def frs (l:List Env):List Addr:=l.filterMap (·.frame)
abbrev Cx.fs (X:Cx):List Addr:=frs X.outer
def Vis (sc:Scope) (x:Str):Prop:=sc.names.lookup x=some .local∨sc.names.lookup x=some .cell∨sc.names.lookup x=some .free
def Loc (sc:Scope) (x:Str):Prop:=sc.names.lookup x=some .local∨sc.names.lookup x=some .cell
def Look (env:Env) (h:Heap) (m:Str→Option Value) (x:Str) (u:Value):Prop :=
 (env.kindOf x=some .local∧m x=some u)∨((env.kindOf x=some .cell∨env.kindOf x=some .free)∧∃c,env.cells.lookup x=some c∧h.IsCell c (some u))
structure Cx.Ok (X:Cx):Prop where
 mod:Mod X.K X.mg X.base
 kind:X.env.scope.kind=.function
 glob:X.env.globals=mainGlobals
 blt:X.env.builtins=builtinsNs
 above:X.s_0.heap.objs.size≤X.env.locals
 inj:∀x y c,X.env.cells.lookup x=some c→X.env.cells.lookup y=some c→x=y
 has:∀x,(X.env.kindOf x=some .cell∨X.env.kindOf x=some .free)→∃c,X.env.cells.lookup x=some c
 cab:∀x c,X.fn x=true→X.env.cells.lookup x=some c→X.s_0.heap.objs.size≤c
 hd:X.calm=true→X.A.handled=none
 frames:X.A.frames=some X.stack
 stk:X.stack=X.outer∨(X.stack=X.env::X.outer∧X.env.frame=some X.env.locals)
 exf:∀b∈X.ex,b≠X.env.locals∧∀x c,X.env.cells.lookup x=some c→c≠b
 bs:∀b o,X.base.get? b=some o→X.s_0.heap.get? b=some o∧X.H_0 b=none
 bsz:X.base.objs.size≤X.s_0.heap.objs.size
 noex:∀b o,X.base.get? b=some o→b ∉ X.ex
 exfs:∀b∈X.ex,b ∉ X.fs
 funs:X.s_0.heap.FunFrames X.base X.outer
 frf:∀b∈X.fs,X.H_0 b=none
structure Inv (X:Cx) (pins:List (Addr×Obj)) (σ:List (Option V)) (H:Hp) (s:Shared):Prop where
 ok:X.Ok
 os:s.os=X.s_0.os
 bare:AllBare s.gens
 base:Un X.fs X.ex X.H_0 H X.s_0.heap s.heap
 loc:∃m,s.heap.Ns X.env.locals m∧∀(i:Nat) (x:Str) (v:V),X.N[i]?=some x→σ[i]?=some (some v)→Vis X.env.scope x→∃u,RelV v u∧Look X.env s.heap m x u
 cell:∀x c,X.env.cells.lookup x=some c→∃v,s.heap.IsCell c v
 free:H X.env.locals=none
 freeC:∀x c,X.env.cells.lookup x=some c→H c=none
 pin:∀p∈X.pn++pins,s.heap.get? p.1=some p.2∧H p.1=none∧p.1≠X.env.locals∧p.1 ∉ X.fs∧∀v,p.2.data≠.cell v
 hok:HOk X.prog X.w H s.heap
 len:σ.length=X.N.length
section
variable {X:Cx} {pins:List (Addr×Obj)} {σ:List (Option V)} {H H':Hp} {s:Shared} {h':Heap}
theorem Cx.Ok.nofr (ok:X.Ok) {b:Addr} {o:Obj} (e:X.base.get? b=some o):b ∉ X.fs:=fun hb=>by
 have:=(ok.funs.mem hb).1
 rw [e] at this;cases this
theorem Inv.bs (I:Inv X pins σ H s):∀b o,X.base.get? b=some o→s.heap.get? b=some o∧H b=none:=fun b o e =>
 ⟨I.base.keep b o (I.ok.bs b o e).1 (I.ok.bs b o e).2 (I.ok.nofr e) (I.ok.noex b o e),I.base.free b o (I.ok.bs b o e).1 (I.ok.bs b o e).2 (I.ok.noex b o e)⟩
theorem Inv.bk (I:Inv X pins σ H s):∀b o,X.base.get? b=some o→s.heap.get? b=some o:=fun b o e=>(I.bs b o e).1
theorem Inv.mod (I:Inv X pins σ H s):Mod X.K X.mg X.base:=I.ok.mod
theorem Inv.kIn (I:Inv X pins σ H s):X.K.In s.heap:=I.ok.mod.kin.keeps I.bk
theorem Inv.nolimit (I:Inv X pins σ H s):s.heap.NoLimit:=I.ok.mod.nolimit.keeps I.bk
theorem Inv.lt (I:Inv X pins σ H s):X.env.locals < s.heap.objs.size:=let ⟨_,hn,_⟩:=I.loc;hn.lt
theorem Inv.sz (I:Inv X pins σ H s):X.s_0.heap.objs.size≤s.heap.objs.size:=Nat.le_trans I.ok.above (Nat.le_of_lt I.lt)
theorem Inv.nofs (I:Inv X pins σ H s) {a:Addr} (h:s.heap.objs.size≤a):a ∉ X.fs:=fun hb=>by
 obtain ⟨_,o,ho,_⟩:=I.ok.funs.mem hb
 exact absurd (Nat.lt_of_lt_of_le (Heap.lt_size ho) (Nat.le_trans I.sz h)) (Nat.lt_irrefl _)
theorem Inv.cne (I:Inv X pins σ H s):∀x c,X.env.cells.lookup x=some c→c≠X.env.locals:=fun x c e z=>by
 obtain ⟨v,o,ho,hd⟩:=I.cell x c e
 obtain ⟨m,⟨o',es,ep,ho',hd',_⟩,_⟩:=I.loc
 rw [z,ho'] at ho;cases ho;rw [hd'] at hd;cases hd
theorem Inv.funs (I:Inv X pins σ H s):s.heap.FunFrames X.base X.outer:=by
 have all:∀(l:List Env),(∀b∈frs l,b∈X.fs)→X.s_0.heap.FunFrames X.base l→s.heap.FunFrames X.base l:=by
  intro l
  induction l with
  | nil=>intro _ _;trivial
  | cons env r ih =>
   intro hs hl
   obtain ⟨hk,⟨L,o,hf,hn,ho,hd⟩,hr⟩:=hl
   have hL:L∈X.fs:=hs L (by unfold frs;rw [List.filterMap_cons,hf];exact List.mem_cons_self)
   obtain ⟨sl,e⟩:=I.base.slot L o ho (I.ok.frf L hL) hL fun z=>I.ok.exfs L z hL
   exact ⟨hk,⟨L,_,hf,hn,e,hd⟩,ih (fun b hb=>hs b (by unfold frs;rw [List.filterMap_cons,hf];exact List.mem_cons_of_mem _ hb)) hr⟩
 exact all X.outer (fun _ hb=>hb) I.ok.funs
theorem Inv.stack (I:Inv X pins σ H s):s.heap.FunFrames X.base X.stack:=by
 rcases I.ok.stk with e | ⟨e,hf⟩
 ·rw [e];exact I.funs
 ·rw [e]
  obtain ⟨m,hn,_⟩:=I.loc
  refine .cons (by rw [I.ok.kind];decide) hf hn ?_ I.funs
  exact Heap.get?_none_of_le (Nat.le_trans I.ok.bsz I.ok.above)
theorem Inv.stkSub (I:Inv X pins σ H s):∀b∈frs X.stack,b∈X.env.locals::X.fs:=fun b hb=>by
 rcases I.ok.stk with e | ⟨e,hf⟩
 ·rw [e] at hb;exact List.mem_cons_of_mem _ hb
 ·rw [e] at hb
  unfold frs at hb
  rw [List.filterMap_cons,hf] at hb
  exact hb
theorem Inv.stkFree (I:Inv X pins σ H s):∀b∈frs X.stack,H b=none:=fun b hb=>by
 rcases List.mem_cons.mp (I.stkSub b hb) with e | hb
 ·rw [e];exact I.free
 ·obtain ⟨_,o,ho,_⟩:=I.ok.funs.mem hb
  exact I.base.free b o ho (I.ok.frf b hb) fun z=>I.ok.exfs b z hb
theorem Inv.step {g':Array GenState} {t':Nat} {d':Drawn} {ch:List Addr} (I:Inv X pins σ H s)
  (hch:∀b∈ch,(b∈X.ex∨X.s_0.heap.objs.size≤b)∧b≠X.env.locals∧(∀x c,X.env.cells.lookup x=some c→c≠b)∧∀p∈X.pn++pins,p.1≠b)
  (keep:∀b o,b≠X.env.locals→b ∉ X.fs→b ∉ ch→s.heap.get? b=some o→H b=none→h'.get? b=some o)
  (slot:∀b o,b≠X.env.locals→b∈X.fs→b ∉ ch→s.heap.get? b=some o→H b=none→∃sl,h'.get? b=some { o with slots:=sl }) (free:∀b o,b ∉ ch→s.heap.get? b=some o→H b=none→H' b=none)
  (there:∀b o,b ∉ ch→s.heap.get? b=some o→∃o',h'.get? b=some o')
  (tups:∀b xs,H b=some (.tup xs)→H' b=some (.tup xs)) (frzs:∀b o u,H b=some (.frz o u)→H' b=some (.frz o u)) (tbls:∀b ps,H b=some (.tbl ps)→∃more,H' b=some (.tbl (ps++more)))
  (ns:∀m,s.heap.Ns X.env.locals m→h'.Ns X.env.locals m) (hok:HOk X.prog X.w H' h') (hg:AllBare g') :
  Inv X pins σ H' { s with heap:=h',gens:=g',drawn:=d',toks:=t' }:=by
 have neL:∀b o,X.s_0.heap.get? b=some o→b≠X.env.locals:=fun b o e=>Nat.ne_of_lt (Nat.lt_of_lt_of_le (Heap.lt_size e) I.ok.above)
 have neC:∀b o,X.s_0.heap.get? b=some o→b ∉ X.ex→b ∉ ch:=fun b o e hx hb=>by
  rcases (hch b hb).1 with z | z
  ·exact hx z
  ·exact absurd (Nat.lt_of_lt_of_le (Heap.lt_size e) z) (Nat.lt_irrefl _)
 have cellK:∀x c,X.env.cells.lookup x=some c→∀v,s.heap.IsCell c v→h'.IsCell c v:=fun x c e v ⟨o,ho,hd⟩=>by
  have nch:c ∉ ch:=fun z=>(hch c z).2.2.1 x c e rfl
  by_cases hc:c∈X.fs
  ·obtain ⟨sl,q⟩:=slot c o (I.cne x c e) hc nch ho (I.freeC x c e)
   exact ⟨_,q,hd⟩
  ·exact ⟨o,keep c o (I.cne x c e) hc nch ho (I.freeC x c e),hd⟩
 refine ⟨I.ok,I.os,hg,⟨fun b o e n hb hx=>?_,fun b o e n hb hx=>?_,fun b o e n hx=>?_,fun b o e hx=>?_,fun b xs e=>tups b xs (I.base.tups b xs e),fun b o xs e=>frzs b o xs (I.base.frzs b o xs e),fun b ps e=>?_⟩,?_,fun x c e=>?_,?_,fun x c e=>?_,fun p hp=>?_,hok,I.len⟩
 ·exact keep b o (neL b o e) hb (neC b o e hx) (I.base.keep b o e n hb hx) (I.base.free b o e n hx)
 ·obtain ⟨sl,e1⟩:=I.base.slot b o e n hb hx
  obtain ⟨sl',e2⟩:=slot b _ (neL b o e) hb (neC b o e hx) e1 (I.base.free b o e n hx)
  exact ⟨sl',e2⟩
 ·obtain ⟨o',e1⟩:=I.base.there b o e hx
  exact free b o' (neC b o e hx) e1 (I.base.free b o e n hx)
 ·obtain ⟨o',e1⟩:=I.base.there b o e hx
  exact there b o' (neC b o e hx) e1
 ·obtain ⟨m1,e1⟩:=I.base.tbls b ps e
  obtain ⟨m2,e2⟩:=tbls b _ e1
  exact ⟨m1++m2,by rw [e2,Array.append_assoc]⟩
 ·obtain ⟨m,hn,hl⟩:=I.loc
  refine ⟨m,ns m hn,fun i x v e1 e2 e3=>?_⟩
  obtain ⟨u,r,l⟩:=hl i x v e1 e2 e3
  refine ⟨u,r,?_⟩
  rcases l with l | ⟨k,c,e,z⟩
  ·exact .inl l
  ·exact .inr ⟨k,c,e,cellK x c e _ z⟩
 ·obtain ⟨v,z⟩:=I.cell x c e
  exact ⟨v,cellK x c e v z⟩
 ·obtain ⟨m,⟨o,_,_,ho,_⟩,_⟩:=I.loc
  exact free _ o (fun z=>(hch _ z).2.1 rfl) ho I.free
 ·obtain ⟨v,o,ho,hd⟩:=I.cell x c e
  exact free c o (fun z=>(hch c z).2.2.1 x c e rfl) ho (I.freeC x c e)
 ·obtain ⟨e,n,ne,nf,d⟩:=I.pin p hp
  have nch:p.1 ∉ ch:=fun z=>(hch p.1 z).2.2.2 p hp rfl
  exact ⟨keep p.1 p.2 ne nf nch e n,free p.1 p.2 nch e n,ne,nf,d⟩
theorem Inv.un {t':Nat} (I:Inv X pins σ H s) (u:Un X.fs [] H H' s.heap h') (hok:HOk X.prog X.w H' h'):Inv X pins σ H' { s with heap:=h',toks:=t' }:=by
 obtain ⟨m,⟨o,es,ep,ho,r⟩,_⟩:=id I.loc
 obtain ⟨sl,hL⟩:=u.any ho I.free (by simp)
 exact I.step (g':=s.gens) (d':=s.drawn) (ch:=[]) (fun _ z=>nomatch z) (fun b o _ hb _ e n=>u.keep b o e n hb (by simp)) (fun b o _ hb _ e n=>u.slot b o e n hb (by simp)) (fun b o _ e n=>u.free b o e n (by simp)) (fun b o _ e=>u.there b o e (by simp)) u.tups u.frzs u.tbls (fun m' hm=>by
  obtain ⟨o',es',ep',ho',r'⟩:=hm
  rw [ho] at ho';cases ho'
  exact ⟨_,es',ep',hL,r'⟩) hok I.bare
theorem Inv.call {g':Array GenState} {t':Nat} {d':Drawn} {ch:List Addr} (I:Inv X pins σ H s) (u:Un (frs X.stack) ch H H' s.heap h') (hok:HOk X.prog X.w H' h') (hg:AllBare g')
  (hch:∀b∈ch,(b∈X.ex∨X.s_0.heap.objs.size≤b)∧b≠X.env.locals∧(∀x c,X.env.cells.lookup x=some c→c≠b)∧∀p∈X.pn++pins,p.1≠b) :
  Inv X pins σ H' { s with heap:=h',gens:=g',drawn:=d',toks:=t' }:=by
 obtain ⟨m,⟨o,es,ep,ho,r⟩,_⟩:=id I.loc
 obtain ⟨sl,hL⟩:=u.any ho I.free fun z=>(hch _ z).2.1 rfl
 exact I.step (ch:=ch) hch (fun b o hL hb hc e n=>u.keep b o e n (fun z=>(List.mem_cons.mp (I.stkSub b z)).elim hL hb) hc) (fun b o _ _ hc e n=>u.any e n hc) (fun b o hc e n=>u.free b o e n hc) (fun b o hc e=>u.there b o e hc) u.tups u.frzs u.tbls (fun m' hm=>by
  obtain ⟨o',es',ep',ho',r'⟩:=hm
  rw [ho] at ho';cases ho'
  exact ⟨_,es',ep',hL,r'⟩) hok hg
theorem Inv.turned {t':Nat} {it:Addr} (I:Inv X pins σ H s) (k:∀b o,b≠it→s.heap.get? b=some o→h'.get? b=some o) (hn:H it=none) (hL:it≠X.env.locals)
  (h1:it∈X.ex∨X.s_0.heap.objs.size≤it) (h2:∀x c,X.env.cells.lookup x=some c→c≠it) (h3:∀p∈X.pn++pins,p.1≠it):Inv X pins σ H { s with heap:=h',toks:=t' }:=by
 have nit:∀b u,H b=some u→b≠it:=fun b u e z=>by rw [z,hn] at e;cases e
 refine I.step (g':=s.gens) (d':=s.drawn) (ch:=[it]) (fun b hb=>?_) (fun b o _ _ hc e _=>k b o (fun z=>hc (by simp [z])) e) (fun b o _ _ hc e _=>⟨o.slots,k b o (fun z=>hc (by simp [z])) e⟩) (fun _ _ _ _ n=>n)
  (fun b o hc e=>⟨o,k b o (fun z=>hc (by simp [z])) e⟩) (fun _ _ e=>e) (fun _ _ _ e=>e) (fun b ps e=>⟨#[],by rw [e];simp⟩) (fun m hm=>?_) (fun b u e=>?_) I.bare
 ·have e:b=it:=by simpa using hb
  subst e
  exact ⟨h1,hL,h2,h3⟩
 ·obtain ⟨o,es,ep,ho,r⟩:=hm
  exact ⟨o,es,ep,k _ o (Ne.symm hL) ho,r⟩
 ·refine (I.hok b u e).stay (fun c v hc q=>k c v ?_ q) (fun _ q=>q) fun _ _ q=>q
  rcases hc with z | z
  ·rw [z];exact nit b u e
  ·exact nit c _ z
theorem Inv.tok (I:Inv X pins σ H s) (t:Nat):Inv X pins σ H { s with toks:=t }:=I.un (h':=s.heap) (t':=t) Un.refl I.hok
theorem Inv.kept {t':Nat} (I:Inv X pins σ H s) (k:∀b u,s.heap.get? b=some u→h'.get? b=some u):Inv X pins σ H { s with heap:=h',toks:=t' }:=I.un (Un.kept k) (I.hok.kept k)
theorem Inv.laid {a:Addr} {o:HO} {t':Nat} (I:Inv X pins σ H s) (k:∀b u,s.heap.get? b=some u→h'.get? b=some u) (hp:s.heap.objs.size≤a) (new:ObjOk X.prog X.w (upd H a o) h' a o) :
  Inv X pins σ (upd H a o) { s with heap:=h',toks:=t' }:=I.un (Un.laid k hp (I.hok.fresh hp)) (I.hok.laid k hp new)
theorem Inv.write {x e:Addr} {o:HO} {t':Nat} (I:Inv X pins σ H s) (mu:Mut (H x)) (he:e=x∨H e=some (.own x)) (k:∀b u,b≠e→s.heap.get? b=some u→h'.get? b=some u) (heo:∃u,h'.get? e=some u)
  (new:ObjOk X.prog X.w (upd H x o) h' x o):Inv X pins σ (upd H x o) { s with heap:=h',toks:=t' }:=I.un (Un.write mu he k heo) (I.hok.write mu he k heo new)
theorem Inv.weak {σ':List (Option V)} (I:Inv X pins σ H s) (hl:σ'.length=σ.length) (w:∀(i:Nat) v,σ'[i]?=some (some v)→σ[i]?=some (some v)):Inv X pins σ' H s :=
 ⟨I.ok,I.os,I.bare,I.base,let ⟨m,hn,hl'⟩:=I.loc;⟨m,hn,fun i x v e1 e2 e3=>hl' i x v e1 (w i v e2) e3⟩,I.cell,I.free,I.freeC,I.pin,I.hok,hl.trans I.len⟩
theorem Inv.pins_of {pins':List (Addr×Obj)} (I:Inv X pins σ H s) (h:∀p∈pins',s.heap.get? p.1=some p.2∧H p.1=none∧p.1≠X.env.locals∧p.1 ∉ X.fs∧∀v,p.2.data≠.cell v):Inv X pins' σ H s :=
 ⟨I.ok,I.os,I.bare,I.base,I.loc,I.cell,I.free,I.freeC,fun p hp=>(List.mem_append.mp hp).elim (fun z=>I.pin p (List.mem_append_left _ z)) (h p),I.hok,I.len⟩
theorem nodup_ix {N:List Str} (hN:N.Nodup) {i j:Nat} {x:Str} (a:N[i]?=some x) (b:N[j]?=some x):i=j:=by
 obtain ⟨h1,e1⟩:=List.getElem?_eq_some_iff.mp a
 obtain ⟨h2,e2⟩:=List.getElem?_eq_some_iff.mp b
 exact (List.getElem_inj hN).mp (e1.trans e2.symm)
theorem store_ok2 {M:Model} {A:Around} {E:Value→Shared→Prop} {i:Nat} {x:Str} {v:V} {u:Value} {Q:Unit→Shared→Prop} (I:Inv X pins σ H s) (hN:X.N.Nodup) (hi:X.N[i]?=some x) (hx:Loc X.env.scope x) (r:RelV v u)
  (h:∀s',Inv X pins (σ.set i (some v)) H s'→(∃a,Heap.SameBut a s.heap s'.heap∧(a=X.env.locals∨X.env.cells.lookup x=some a))→Q () s') (hf:X.fn x=true∨X.env.scope.names.lookup x=some .local:=by first | exact .inl rfl | exact .inr rfl | assumption):wpAny M A (storeName X.env x u) Q E s:=by
 obtain ⟨m,hn,hl⟩:=id I.loc
 have hcls:(X.env.scope.kind==.class||(X.env.scope.kind==.module&&X.env.locals != X.env.globals))=false:=by rw [I.ok.kind];rfl
 have hiσ:i < σ.length:=by rw [I.len];exact (List.getElem?_eq_some_iff.mp hi).1
 have cne:=I.cne
 have tracked:∀{a:Addr} {h':Heap},(∃o,s.heap.get? a=some o∧H a=none)→Heap.SameBut a s.heap h'→HOk X.prog X.w H h':=fun {a h'} ha hs b ob e=>by
  obtain ⟨_,_,hfree⟩:=ha
  refine (I.hok b ob e).stay (fun c w' hc q=>(hs.2 c ?_).trans q) (fun _ q=>q) fun _ _ q=>q
  rintro rfl
  rcases hc with rfl | hc
  ·rw [hfree] at e;cases e
  ·rw [hfree] at hc;cases hc
 rcases hx with hk | hk
 ·refine wpAny_storeName_local hk hn (fun h' hn' hs=>?_) hcls
  obtain ⟨oL,_,_,hoL,_⟩:=id hn
  refine h _ ⟨I.ok,I.os,I.bare,⟨fun b o e n hb hx=>?_,fun b o e n hb hx=>?_,I.base.free,fun b o e hx=>?_,I.base.tups,I.base.frzs,I.base.tbls⟩,⟨_,hn',fun j y v' e1 e2 e3=>?_⟩,fun y c e=>?_,I.free,I.freeC,fun p hp=>?_,tracked ⟨oL,hoL,I.free⟩ hs,by simpa using I.len⟩ ⟨_,hs,.inl rfl⟩
  ·exact (hs.2 b (Nat.ne_of_lt (Nat.lt_of_lt_of_le (Heap.lt_size e) I.ok.above))).trans (I.base.keep b o e n hb hx)
  ·obtain ⟨sl,e1⟩:=I.base.slot b o e n hb hx
   exact ⟨sl,(hs.2 b (Nat.ne_of_lt (Nat.lt_of_lt_of_le (Heap.lt_size e) I.ok.above))).trans e1⟩
  ·obtain ⟨o',e1⟩:=I.base.there b o e hx
   exact ⟨o',(hs.2 b (Nat.ne_of_lt (Nat.lt_of_lt_of_le (Heap.lt_size e) I.ok.above))).trans e1⟩
  ·by_cases hj:j=i
   ·subst hj
    rw [hi] at e1;cases e1
    rw [List.getElem?_set_self hiσ] at e2
    cases e2
    exact ⟨u,r,.inl ⟨hk,by simp⟩⟩
   ·rw [List.getElem?_set_ne (Ne.symm hj)] at e2
    obtain ⟨u',r',q⟩:=hl j y v' e1 e2 e3
    refine ⟨u',r',?_⟩
    rcases q with ⟨k,e⟩ | ⟨k,c,e,z⟩
    ·refine .inl ⟨k,?_⟩
     have:y≠x:=fun e=>hj (nodup_ix hN e1 (e ▸ hi))
     simp [this,e]
    ·exact .inr ⟨k,c,e,z.sameBut hs (cne y c e)⟩
  ·obtain ⟨w',z⟩:=I.cell y c e
   exact ⟨w',z.sameBut hs (cne y c e)⟩
  ·obtain ⟨e,n,ne,nf,d⟩:=I.pin p hp
   exact ⟨(hs.2 p.1 ne).trans e,n,ne,nf,d⟩
 ·have hfn:X.fn x=true:=by
   rcases hf with z | z
   ·exact z
   ·rw [z] at hk;cases hk
  obtain ⟨c,hc⟩:=I.ok.has x (.inl hk)
  obtain ⟨w',z⟩:=I.cell x c hc
  refine wpAny_storeName_cell I.ok.kind hk hc z (fun h' hc' hs=>?_)
  obtain ⟨oc,hoc,hocd⟩:=id z
  refine h { s with heap:=h' } ⟨I.ok,I.os,I.bare,⟨fun b o e n hb hx=>?_,fun b o e n hb hx=>?_,I.base.free,fun b o e hx=>?_,I.base.tups,I.base.frzs,I.base.tbls⟩,⟨m,hn.sameBut hs (Ne.symm (cne x c hc)),fun j y v' e1 e2 e3=>?_⟩,fun y c' e=>?_,I.free,I.freeC,fun p hp=>?_,tracked ⟨oc,hoc,I.freeC x c hc⟩ hs,by simpa using I.len⟩ ⟨c,hs,.inr hc⟩
  ·exact (hs.2 b (Nat.ne_of_lt (Nat.lt_of_lt_of_le (Heap.lt_size e) (I.ok.cab x c hfn hc)))).trans (I.base.keep b o e n hb hx)
  ·obtain ⟨sl,e1⟩:=I.base.slot b o e n hb hx
   exact ⟨sl,(hs.2 b (Nat.ne_of_lt (Nat.lt_of_lt_of_le (Heap.lt_size e) (I.ok.cab x c hfn hc)))).trans e1⟩
  ·obtain ⟨o',e1⟩:=I.base.there b o e hx
   exact ⟨o',(hs.2 b (Nat.ne_of_lt (Nat.lt_of_lt_of_le (Heap.lt_size e) (I.ok.cab x c hfn hc)))).trans e1⟩
  ·by_cases hj:j=i
   ·subst hj
    rw [hi] at e1;cases e1
    rw [List.getElem?_set_self hiσ] at e2
    cases e2
    exact ⟨u,r,.inr ⟨.inl hk,c,hc,hc'⟩⟩
   ·rw [List.getElem?_set_ne (Ne.symm hj)] at e2
    obtain ⟨u',r',q⟩:=hl j y v' e1 e2 e3
    refine ⟨u',r',?_⟩
    rcases q with q | ⟨k,c',e,z'⟩
    ·exact .inl q
    ·refine .inr ⟨k,c',e,z'.sameBut hs ?_⟩
     rintro rfl
     exact hj (nodup_ix hN e1 (I.ok.inj _ _ _ e hc ▸ hi))
  ·by_cases hcc:c'=c
   ·subst hcc;exact ⟨_,hc'⟩
   ·obtain ⟨w2,z2⟩:=I.cell y c' e
    exact ⟨w2,z2.sameBut hs hcc⟩
  ·obtain ⟨e,n,ne,nf,d⟩:=I.pin p hp
   refine ⟨(hs.2 p.1 ?_).trans e,n,ne,nf,d⟩
   intro q
   rw [q,hoc] at e
   have q':oc=p.2:=Option.some.inj e
   exact d w' (by rw [←q'];exact hocd)
theorem store_ok {M:Model} {A:Around} {E:Value→Shared→Prop} {i:Nat} {x:Str} {v:V} {u:Value} {Q:Unit→Shared→Prop} (I:Inv X pins σ H s) (hN:X.N.Nodup) (hi:X.N[i]?=some x) (hx:Loc X.env.scope x) (r:RelV v u)
  (h:∀s',Inv X pins (σ.set i (some v)) H s'→Q () s') (hf:X.fn x=true∨X.env.scope.names.lookup x=some .local:=by first | exact .inl rfl | exact .inr rfl | assumption):wpAny M A (storeName X.env x u) Q E s :=
 store_ok2 I hN hi hx r (fun s' I' _=>h s' I') hf
theorem Inv.call' {s':Shared} {ch:List Addr} (I:Inv X pins σ H s) (ho:s'.os=s.os) (u:Un (frs X.stack) ch H H' s.heap s'.heap) (hok:HOk X.prog X.w H' s'.heap) (hg:AllBare s'.gens)
  (hch:∀b∈ch,(b∈X.ex∨X.s_0.heap.objs.size≤b)∧b≠X.env.locals∧(∀x c,X.env.cells.lookup x=some c→c≠b)∧∀p∈X.pn++pins,p.1≠b):Inv X pins σ H' s':=by
 obtain ⟨h',g',d',t',o'⟩:=s'
 have e:o'=s.os:=ho
 subst e
 exact I.call (g':=g') (t':=t') (d':=d') u hok hg hch
end
abbrev XK:=Value→Option Addr→Hp→Prop
abbrev St:=List (Option V)
abbrev VK:=V→Hp→Prop
abbrev TE:=St→Hp→VK→Prop
abbrev TT:=St→Hp→(Bool→Hp→Prop)→Prop
abbrev TA:=St→Hp→(List V→Hp→Prop)→Prop
structure Ends where
 nx:St→Hp→Prop
 rt:VK
 bk:St→Hp→Prop:=fun _ _=>False
 ct:St→Hp→Prop:=fun _ _=>False
abbrev TS:=Ends→St→Hp→Prop
def EP (X:Cx) (pins:List (Addr×Obj)) (σ:St) (Q:VK) (u:Value) (s':Shared):Prop:=∃v H',Inv X pins σ H' s'∧RelV v u∧Q v H'
def TP (X:Cx) (pins:List (Addr×Obj)) (σ:St) (Q:Bool→Hp→Prop) (b:Bool) (s':Shared):Prop:=∃H',Inv X pins σ H' s'∧Q b H'
def AP (X:Cx) (pins:List (Addr×Obj)) (σ:St) (Q:List V→Hp→Prop) (us:List Value) (s':Shared):Prop:=∃vs H',Inv X pins σ H' s'∧Vals vs us∧Q vs H'
def SP (X:Cx) (pins:List (Addr×Obj)) (D:Ends) (f:Flow) (s':Shared):Prop :=
 match f with
 | .next=>∃σ' H',Inv X pins σ' H' s'∧D.nx σ' H'
 | .brk=>∃σ' H',Inv X pins σ' H' s'∧D.bk σ' H'
 | .cont=>∃σ' H',Inv X pins σ' H' s'∧D.ct σ' H'
 | .ret u=>∃v σ' H',Inv X pins σ' H' s'∧RelV v u∧D.rt v H'
def PE (X:Cx) (e:Expr) (t:TE):Prop :=
 ∀(pins:List (Addr×Obj)) (s:Shared) (σ:St) (H:Hp) (Q:VK),Inv X pins σ H s→t σ H Q→wpAny (model X.prog X.w) X.A (eval e X.env) (EP X pins σ Q) X.xe s
def PT (X:Cx) (e:Expr) (t:TT):Prop :=
 ∀(pins:List (Addr×Obj)) (s:Shared) (σ:St) (H:Hp) (Q:Bool→Hp→Prop),Inv X pins σ H s→t σ H Q→wpAny (model X.prog X.w) X.A (isTrue e X.env (eval e X.env)) (TP X pins σ Q) X.xe s
def PW (X:Cx) (e:Expr) (t:TT):Prop :=
 ∀(whole:Sem Value) (pins:List (Addr×Obj)) (s:Shared) (σ:St) (H:Hp) (Q:Bool→Hp→Prop),Inv X pins σ H s→t σ H Q→wpAny (model X.prog X.w) X.A (isTrue e X.env whole) (TP X pins σ Q) X.xe s
theorem PW.pt {X:Cx} {e:Expr} {t:TT} (h:PW X e t):PT X e t:=h _
def PA (X:Cx) (es:List Expr) (t:TA):Prop :=
 ∀(pos:Pos) (pins:List (Addr×Obj)) (s:Shared) (σ:St) (H:Hp) (Q:List V→Hp→Prop),Inv X pins σ H s→t σ H Q→wpAny (model X.prog X.w) X.A (spliced (backTo pos (starEach es X.env))) (AP X pins σ Q) X.xe s
def PS (X:Cx) (st:Stmt) (t:TS):Prop :=
 ∀(pins:List (Addr×Obj)) (s:Shared) (σ:St) (H:Hp) (D:Ends),Inv X pins σ H s→t D σ H→wpAny (model X.prog X.w) X.A (exec st X.env) (SP X pins D) X.xe s
def PSs (X:Cx) (st:List Stmt) (t:TS):Prop :=
 ∀(pins:List (Addr×Obj)) (s:Shared) (σ:St) (H:Hp) (D:Ends),Inv X pins σ H s→t D σ H→wpAny (model X.prog X.w) X.A (execs st X.env) (SP X pins D) X.xe s
theorem thn {α:Type} {t:Sem α} {Q Q':α→Shared→Prop} {M:Model} {A:Around} {E:Value→Shared→Prop} {s:Shared} (h:wpAny M A t Q E s) (hQ:∀a s,Q a s→Q' a s):wpAny M A t Q' E s:=wpAny_mono h hQ fun _ _ x=>x
end L2
namespace L2
open PySem PySem.Spec PyProof.Rows
section
variable {X:Cx}
def tVar (i:Nat):TE:=fun σ H Q=>∃v,σ[i]?=some (some v)∧Q v H
def tC (v:V):TE:=fun _ H Q=>Q v H
theorem pe_var {i:Nat} {x:Str} {pos:Pos} (hN:X.N[i]?=some x) (hv:Vis X.env.scope x) (hd:(x==("__debug__":Str))=false:=by decide) (hcd:(x==("__classdict__":Str))=false:=by decide):PE X (.Name x pos) (tVar i):=by
 intro pins s σ H Q I h
 obtain ⟨v,e,h⟩:=h
 obtain ⟨m,hn,hl⟩:=I.loc
 obtain ⟨u,r,l⟩:=hl i x v hN e hv
 have fin:EP X pins σ Q u s:=⟨v,H,I,r,h⟩
 rcases l with ⟨hk,hm⟩ | ⟨hk,c,hc,hcell⟩
 ·exact wpAny_Name (wpAny_loadName_local I.ok.kind hk hn hm fin) hd
 ·rcases hk with hk | hk
  ·exact wpAny_Name (wpAny_loadName_cell I.ok.kind hk hc hcell fin) hd
  ·exact wpAny_Name (wpAny_loadName_free I.ok.kind hk hc hcell fin hcd) hd
theorem pe_int {i j pos}:PE X (.Constant (.int i) j pos) (tC (.int i)):=fun _ _ _ H _ I h=>wpAny_Constant_int ⟨.int i,H,I.tok _,⟨_,rfl⟩,h⟩
theorem pe_bl {b j pos}:PE X (.Constant (.bool b) j pos) (tC (.bl b)):=fun _ _ _ H _ I h=>Constant_bool ⟨.bl b,H,I,rfl,h⟩
theorem pe_non {j pos}:PE X (.Constant .none j pos) (tC .non):=fun _ _ _ H _ I h=>Constant_none ⟨.non,H,I,rfl,h⟩
def Gl (X:Cx) (x:Str):Prop:=X.env.kindOf x=some .globalImplicit
theorem ld_glob {E:Value→Shared→Prop} {pins:List (Addr×Obj)} {s:Shared} {σ:St} {H:Hp} {x:Str} {u:Value} {pos:Pos} {Q:Value→Shared→Prop} (I:Inv X pins σ H s) (hg:Gl X x) (hm:X.mg x=some u) (h:Q u s)
  (hd:(x==("__debug__":Str))=false:=by decide):wpAny (model X.prog X.w) X.A (eval (.Name x pos) X.env) Q E s :=
 Calls.Name_function_global I.ok.kind hg (Calls.loadGlobal_global (by rw [I.ok.glob];exact I.mod.glob.keeps I.bk) hm h) hd
theorem ld_blt {E:Value→Shared→Prop} {pins:List (Addr×Obj)} {s:Shared} {σ:St} {H:Hp} {x:Str} {u:Value} {pos:Pos} {Q:Value→Shared→Prop} (I:Inv X pins σ H s) (hg:Gl X x) (hm:X.mg x=none) (hv:bootBuiltins x=some u) (h:Q u s)
  (hn:x≠"__name__":=by decide) (hd:(x==("__debug__":Str))=false:=by decide):wpAny (model X.prog X.w) X.A (eval (.Name x pos) X.env) Q E s:=by
 obtain ⟨mb,h1,h2⟩:=I.mod.blt
 exact Calls.Name_function_global I.ok.kind hg (Calls.loadGlobal_builtin (by rw [I.ok.glob];exact I.mod.glob.keeps I.bk) hm (by rw [I.ok.blt];exact h1.keeps I.bk) ((h2 x hn).trans hv) h) hd
theorem pe_glob {x:Str} {v:V} {u:Value} {pos:Pos} (hg:Gl X x) (hm:X.mg x=some u) (r:RelV v u) (hd:(x==("__debug__":Str))=false:=by decide):PE X (.Name x pos) (tC v) :=
 fun _ _ _ H _ I h=>ld_glob I hg hm ⟨v,H,I,r,h⟩ hd
variable {a b:Expr} {ta tb:TE} {pos:Pos}
def PC (X:Cx) (op:CmpOp) (a b:Expr) (t:TE):Prop :=
 ∀(pins:List (Addr×Obj)) (s:Shared) (σ:St) (H:Hp) (Q:VK),Inv X pins σ H s→t σ H Q →
  wpAny (model X.prog X.w) X.A (eval a X.env) (fun v s₁=>wpAny (model X.prog X.w) X.A (eval b X.env) (fun u s₂=>wpAny (model X.prog X.w) X.A (compareOp op v u) (EP X pins σ Q) X.xe s₂) X.xe s₁) X.xe s
theorem nobehind (b:Expr) {op:CmpOp} (h:op≠.In) (h2:op≠.NotIn):behindInMarks op b=false:=by
 have e1:(op==CmpOp.In)=false:=by cases op <;> first | rfl | exact absurd rfl h
 have e2:(op==CmpOp.NotIn)=false:=by cases op <;> first | rfl | exact absurd rfl h2
 cases b <;> simp [behindInMarks,e1,e2]
def tIsN (ta:TE):TE:=fun σ H Q=>ta σ H fun x H1=>Q (.bl (decide (x=.non))) H1
def tNotN (ta:TE):TE:=fun σ H Q=>ta σ H fun x H1=>Q (.bl (!decide (x=.non))) H1
theorem RelV.none_iff {x:V} {v:Value} (r:RelV x v):(v==Value.none)=decide (x=.non):=by
 cases x with
 | non=>cases r;rfl
 | bl _=>cases r;rfl
 | int _=>obtain ⟨t,rfl⟩:=r;rfl
 | str _=>obtain ⟨t,rfl⟩:=r;rfl
 | byt _=>obtain ⟨t,rfl⟩:=r;rfl
 | flt _=>obtain ⟨t,rfl⟩:=r;rfl
 | ref _=>cases r;rfl
 | ty _=>cases r;rfl
theorem pc_isN {j pos'} (ha:PE X a ta):PC X .Is a (.Constant .none j pos') (tIsN ta):=by
 intro pins s σ H Q I h
 refine thn (ha pins s σ H _ I h) fun v s1 ⟨x,H1,I1,r1,q1⟩=>?_
 exact Constant_none (is_none_gen ⟨.bl _,H1,I1,by rw [r1.none_iff];rfl,q1⟩)
theorem pc_notN {j pos'} (ha:PE X a ta):PC X .IsNot a (.Constant .none j pos') (tNotN ta):=by
 intro pins s σ H Q I h
 refine thn (ha pins s σ H _ I h) fun v s1 ⟨x,H1,I1,r1,q1⟩=>?_
 exact Constant_none (isnot_none_gen ⟨.bl _,H1,I1,by rw [r1.none_iff];rfl,q1⟩)
def tB (t:TE):TT:=fun σ H Q=>t σ H fun x H1=>∃c,x=.bl c∧Q c H1
theorem pe_cmp {op:CmpOp} {t:TE} (h:PC X op a b t) (h1:behindInMarks op b=false:=by first | exact nobehind _ (by decide) (by decide) | rfl):PE X (.Compare a [op] [b] pos) t:=fun pins s σ H Q I hw=>wpAny_Compare1 (h pins s σ H Q I hw) h1
theorem pt_cmp {op:CmpOp} {t:TE} (h:PC X op a b t) (h1:behindInMarks op b=false:=by first | exact nobehind _ (by decide) (by decide) | rfl):PT X (.Compare a [op] [b] pos) (tB t):=by
 intro pins s σ H Q I hw
 refine wpAny_isTrue_Compare1 (thn (h pins s σ H _ I hw) fun v s1 h1=>thn h1 fun u s2 h2=>thn h2 fun c s3 ⟨x,H1,I1,r1,q1⟩=>?_) h1
 obtain ⟨d,rfl,q⟩:=q1
 cases r1
 exact wpAny_truthy_bool ⟨H1,I1,q⟩
theorem pt_val {e:Expr} {t:TE} (h:PE X e t) (he:∀whole,isTrue e X.env whole=(do let v ← whole;standAt e.pos;holding [v] (truthy v)):=by intro _;rfl):PT X e (tB t):=by
 intro pins s σ H Q I hw
 refine isTrue_plain (thn (h pins s σ H _ I hw) fun v s1 ⟨x,H1,I1,r1,q1⟩=>?_) (he _)
 obtain ⟨d,rfl,q⟩:=q1
 cases r1
 exact wpAny_truthy_bool ⟨H1,I1,q⟩
variable {tA tB':TT} {rest:List Expr}
def tAnd (t u:TT):TT:=fun σ H Q=>t σ H fun c H1=>if c=true then u σ H1 Q else Q false H1
def tOr (t u:TT):TT:=fun σ H Q=>t σ H fun c H1=>if c=true then Q true H1 else u σ H1 Q
def tNot (t:TT):TT:=fun σ H Q=>t σ H fun c H1=>Q (!c) H1
theorem pw_and1 (ha:PT X a tA):PW X (.BoolOp .And [a] pos) tA:=by
 intro wh pins s σ H Q I h
 refine isTrue_and (thn (ha pins s σ H Q I h) fun c s1 e=>?_)
 cases c with
 | true=>exact isTrue_and_nil e
 | false=>exact e
theorem pw_or1 (ha:PT X a tA):PW X (.BoolOp .Or [a] pos) tA:=by
 intro wh pins s σ H Q I h
 refine isTrue_or (thn (ha pins s σ H Q I h) fun c s1 e=>?_)
 cases c with
 | false=>exact isTrue_or_nil e
 | true=>exact e
theorem pw_and (ha:PT X a tA) (hb:PW X (.BoolOp .And (b::rest) pos) tB'):PW X (.BoolOp .And (a::b::rest) pos) (tAnd tA tB'):=by
 intro wh pins s σ H Q I h
 refine isTrue_and (thn (ha pins s σ H _ I h) fun c s1 ⟨H1,I1,q1⟩=>?_)
 cases c with
 | true=>exact hb wh pins s1 σ H1 Q I1 q1
 | false=>exact ⟨H1,I1,q1⟩
theorem pw_or (ha:PT X a tA) (hb:PW X (.BoolOp .Or (b::rest) pos) tB'):PW X (.BoolOp .Or (a::b::rest) pos) (tOr tA tB'):=by
 intro wh pins s σ H Q I h
 refine isTrue_or (thn (ha pins s σ H _ I h) fun c s1 ⟨H1,I1,q1⟩=>?_)
 cases c with
 | true=>exact ⟨H1,I1,q1⟩
 | false=>exact hb wh pins s1 σ H1 Q I1 q1
theorem pt_not (ha:PT X a tA):PT X (.UnaryOp .Not a pos) (tNot tA):=by
 intro pins s σ H Q I h
 exact isTrue_not (ha pins s σ H (fun c H1=>Q (!c) H1) I h)
def tAndV (ta tb:TE):TE:=fun σ H Q=>ta σ H fun x H1=>∃c,x=.bl c∧if c=true then tb σ H1 Q else Q (.bl false) H1
def tNotV (ta:TE):TE:=fun σ H Q=>ta σ H fun x H1=>∃c,x=.bl c∧Q (.bl (!c)) H1
theorem pe_one {op} {t:TE} (h:PE X a t):PE X (.BoolOp op [a] pos) t:=fun pins s σ H Q I hw=>BoolOp_one (h pins s σ H Q I hw)
theorem pe_and (ha:PE X a ta) (hb:PE X (.BoolOp .And (b::rest) pos) tb):PE X (.BoolOp .And (a::b::rest) pos) (tAndV ta tb):=by
 intro pins s σ H Q I h
 refine BoolOp_and (thn (ha pins s σ H _ I h) fun v s1 ⟨x,H1,I1,r1,q1⟩=>?_)
 obtain ⟨c,rfl,q1⟩:=q1
 cases r1
 refine wpAny_truthy_bool ?_
 cases c with
 | true=>exact hb pins s1 σ H1 Q I1 q1
 | false=>exact ⟨.bl false,H1,I1,rfl,q1⟩
theorem pe_not (ha:PE X a ta):PE X (.UnaryOp .Not a pos) (tNotV ta):=by
 intro pins s σ H Q I h
 refine UnaryOp_ (thn (ha pins s σ H _ I h) fun v s1 ⟨x,H1,I1,r1,q1⟩=>?_)
 obtain ⟨c,rfl,q1⟩:=q1
 cases r1
 exact not_of (wpAny_truthy_bool ⟨.bl (!c),H1,I1,rfl,q1⟩)
def tIf (t:TT) (ta tb:TE):TE:=fun σ H Q=>t σ H fun c H1=>if c=true then ta σ H1 Q else tb σ H1 Q
theorem pe_ifExp {c:Expr} (hc:PT X c tA) (ha:PE X a ta) (hb:PE X b tb):PE X (.IfExp c a b pos) (tIf tA ta tb):=by
 intro pins s σ H Q I h
 refine wpAny_IfExp (thn (hc pins s σ H _ I h) fun d s1 ⟨H1,I1,q1⟩=>?_)
 cases d with
 | true=>exact ha pins s1 σ H1 Q I1 q1
 | false=>exact hb pins s1 σ H1 Q I1 q1
end
end L2
namespace L2
open PySem PySem.Spec PyProof.Rows
def SqL (K:PySem.W.Frag) (H:Hp) (a:Addr) (xs:List V):Prop :=
 Rd H a (.lst xs) ∨
  ∃(o:Obj) (its:Array Value) (n:Nat),K.lookup a=some o∧o.cls=.type "list"∧o.dict=none∧o.data=.seq its n∧its.size≤sizeLine∧Vals xs its.toList
def SqT (K:PySem.W.Frag) (H:Hp) (a:Addr) (xs:List V):Prop :=
 Rd H a (.tup xs) ∨
  ∃(o:Obj) (its:Array Value) (n:Nat),K.lookup a=some o∧o.cls=.type "tuple"∧o.data=.seq its n∧its.size≤sizeLine∧Vals xs its.toList
def absV:Value→Option V
 | .none=>some .non
 | .bool b=>some (.bl b)
 | .int i _=>some (.int i)
 | .str x _=>some (.str x)
 | .bytes b _=>some (.byt b)
 | .float b _=>some (.flt b)
 | .ref a=>some (.ref a)
 | .type n=>some (.ty n)
 | _=>none
theorem RelV.abs {x:V} {u:Value} (r:RelV x u):absV u=some x:=by
 cases x with
 | non=>cases r;rfl
 | bl _=>cases r;rfl
 | int _=>obtain ⟨t,rfl⟩:=r;rfl
 | str _=>obtain ⟨t,rfl⟩:=r;rfl
 | byt _=>obtain ⟨t,rfl⟩:=r;rfl
 | flt _=>obtain ⟨t,rfl⟩:=r;rfl
 | ref _=>cases r;rfl
 | ty _=>cases r;rfl
theorem RelV.inj {x y:V} {u:Value} (r:RelV x u) (q:RelV y u):x=y:=Option.some.inj (r.abs.symm.trans q.abs)
theorem Vals.inj:∀{xs ys:List V} {us:List Value},Vals xs us→Vals ys us→xs=ys
 | _,_,_,.nil,.nil=>rfl
 | _,_,_,.cons r t,.cons r' t'=>by rw [r.inj r',Vals.inj t t']
section
variable {X:Cx} {pins:List (Addr×Obj)} {σ:St} {H:Hp} {s:Shared} {a:Addr} {xs ys:List V}
theorem SqL.of {K:PySem.W.Frag} (h:H a=some (.lst xs)):SqL K H a xs:=.inl (.inl h)
theorem SqT.of {K:PySem.W.Frag} (h:H a=some (.tup xs)):SqT K H a xs:=.inl (.inl h)
theorem Inv.list (I:Inv X pins σ H s) (h:SqL X.K H a xs):∃its:List Value,Vals xs its∧PlainL s.heap a its.toArray∧xs.length≤sizeLine:=by
 rcases h with h | ⟨o,its,n,hk,hc,hd,hs,hz,r⟩
 ·obtain ⟨z,its,n,r,e⟩:=h.ok I.hok
  exact ⟨its,r,⟨_,n,e,rfl,rfl,rfl⟩,z⟩
 ·refine ⟨its.toList,r,⟨o,n,I.kIn a o hk,hc,hd,by simpa using hs⟩,?_⟩
  have e:=r.length
  simp only [Array.length_toList] at e
  omega
theorem Inv.tuple (I:Inv X pins σ H s) (h:SqT X.K H a xs):∃its:List Value,Vals xs its∧IsTup s.heap a its.toArray∧xs.length≤sizeLine:=by
 rcases h with h | ⟨o,its,n,hk,hc,hs,hz,r⟩
 ·obtain ⟨z,its,r,p⟩:=h.ok I.hok
  exact ⟨its,r,p,z⟩
 ·refine ⟨its.toList,r,⟨o,I.kIn a o hk,hc,n,by simpa using hs⟩,?_⟩
  have e:=r.length
  simp only [Array.length_toList] at e
  omega
theorem Inv.list_inj (I:Inv X pins σ H s) (h:SqL X.K H a xs) (h':SqL X.K H a ys):xs=ys:=by
 obtain ⟨its,r,⟨o,n,e,_,_,d⟩,_⟩:=I.list h
 obtain ⟨its',r',⟨o',n',e',_,_,d'⟩,_⟩:=I.list h'
 rw [e] at e';cases e'
 rw [d] at d'
 injection d' with d1 _
 have:its=its':=by simpa using congrArg Array.toList d1
 subst this
 exact r.inj r'
end
abbrev Cx.wish (X:Cx) (E:Value→Shared→Prop):Cx:={ X with xe:=E }
abbrev Cx.nox (X:Cx):Cx:=X.wish fun _ _=>False
theorem Cx.Ok.wish {X:Cx} (ok:X.Ok) (E:Value→Shared→Prop):(X.wish E).Ok :=
 ⟨ok.mod,ok.kind,ok.glob,ok.blt,ok.above,ok.inj,ok.has,ok.cab,ok.hd,ok.frames,ok.stk,ok.exf,ok.bs,ok.bsz,ok.noex,ok.exfs,ok.funs,ok.frf⟩
theorem Cx.Ok.unwish {X:Cx} {E:Value→Shared→Prop} (ok:(X.wish E).Ok):X.Ok :=
 ⟨ok.mod,ok.kind,ok.glob,ok.blt,ok.above,ok.inj,ok.has,ok.cab,ok.hd,ok.frames,ok.stk,ok.exf,ok.bs,ok.bsz,ok.noex,ok.exfs,ok.funs,ok.frf⟩
section
variable {X:Cx} {pins:List (Addr×Obj)} {σ:St} {H:Hp} {s:Shared} {E:Value→Shared→Prop}
theorem Inv.wish (I:Inv X pins σ H s) (E:Value→Shared→Prop):Inv (X.wish E) pins σ H s:=⟨I.ok.wish E,I.os,I.bare,I.base,I.loc,I.cell,I.free,I.freeC,I.pin,I.hok,I.len⟩
theorem Inv.unwish (I:Inv (X.wish E) pins σ H s):Inv X pins σ H s:=⟨I.ok.unwish,I.os,I.bare,I.base,I.loc,I.cell,I.free,I.freeC,I.pin,I.hok,I.len⟩
theorem SP.unwish {D:Ends} {f:Flow} {s':Shared} (h:SP (X.wish E) pins D f s'):SP X pins D f s':=by
 cases f with
 | next=>obtain ⟨σ',H',I,q⟩:=h;exact ⟨σ',H',I.unwish,q⟩
 | brk=>obtain ⟨σ',H',I,q⟩:=h;exact ⟨σ',H',I.unwish,q⟩
 | cont=>obtain ⟨σ',H',I,q⟩:=h;exact ⟨σ',H',I.unwish,q⟩
 | ret u=>obtain ⟨v,σ',H',I,r,q⟩:=h;exact ⟨v,σ',H',I.unwish,r,q⟩
theorem PSs.nox {st:List Stmt} {t:TS} (h:PSs X.nox st t):PSs X st t:=fun pins s σ H D I hw =>
 wpAny_mono (h pins s σ H D (I.wish _) hw) (fun _ _ q=>q.unwish) fun _ _ z=>False.elim z
end
section
variable {X:Cx} {st:Stmt} {rest:List Stmt} {t u:TS} {e:Expr} {te:TE} {pos:Pos}
def tNext:TS:=fun D σ H=>D.nx σ H
def tSeq (t u:TS):TS:=fun D σ H=>t { D with nx:=u D } σ H
theorem pss_nil:PSs X [] tNext:=fun _ _ σ H _ I h=>wpAny_execs_nil ⟨σ,H,I,h⟩
theorem pss_cons (h1:PS X st t) (h2:PSs X rest u):PSs X (st::rest) (tSeq t u):=by
 intro pins s σ H D I h
 refine wpAny_execs_cons (thn (h1 pins s σ H { D with nx:=u D } I h) fun f s1 q=>?_)
 cases f with
 | next =>
  obtain ⟨σ',H',I',q⟩:=q
  exact h2 pins s1 σ' H' D I' q
 | ret v=>exact q
 | brk=>exact q
 | cont=>exact q
theorem pss_one (h1:PS X st t):PSs X [st] t:=by
 intro pins s σ H D I h
 refine wpAny_execs_cons (thn (h1 pins s σ H D I h) fun f s1 q=>?_)
 cases f with
 | next=>exact wpAny_execs_nil q
 | ret v=>exact q
 | brk=>exact q
 | cont=>exact q
theorem Inv.quiet {pins:List (Addr×Obj)} {σ:St} {H:Hp} {s:Shared} (I:Inv X pins σ H s):interactive X.env=false:=by simp [interactive,I.ok.kind]
def tDrop (te:TE):TS:=fun D σ H=>te σ H fun _ H1=>D.nx σ H1
theorem ps_expr (he:PE X e te) (hs:swapsWith e none pos.line X.env=pure false:=by rfl):PS X (.Expr e pos) (tDrop te):=by
 intro pins s σ H D I h
 exact wpAny_Expr_any (thn (he pins s σ H _ I h) fun v s1 ⟨x,H1,I1,r1,q1⟩=>⟨σ,H1,I1,q1⟩) I.quiet hs
def tRet (te:TE):TS:=fun D σ H=>te σ H D.rt
theorem ps_ret (he:PE X e te):PS X (.Return (some e) pos) (tRet te):=by
 intro pins s σ H D I h
 exact wpAny_Return_some (thn (he pins s σ H _ I h) fun v s1 ⟨x,H1,I1,r1,q1⟩=>⟨x,σ,H1,I1,r1,q1⟩)
def tIfS (c:TT) (t u:TS):TS:=fun D σ H=>c σ H fun b H1=>if b=true then t D σ H1 else u D σ H1
theorem ps_if {c:Expr} {a b:List Stmt} {tc:TT} (hc:PT X c tc) (ha:PSs X a t) (hb:PSs X b u):PS X (.If c a b pos) (tIfS tc t u):=by
 intro pins s σ H D I h
 refine wpAny_If (thn (hc pins s σ H _ I h) fun d s1 ⟨H1,I1,q1⟩=>?_)
 cases d with
 | true=>exact ha pins s1 σ H1 D I1 q1
 | false=>exact hb pins s1 σ H1 D I1 q1
end
abbrev TG:=V→St→Hp→(St→Hp→Prop)→Prop
abbrev TGs:=List V→St→Hp→(St→Hp→Prop)→Prop
def PG (X:Cx) (target:Expr) (t:TG):Prop :=
 ∀(pins:List (Addr×Obj)) (s:Shared) (σ:St) (H:Hp) (v:V) (u:Value) (Q:St→Hp→Prop),Inv X pins σ H s→RelV v u→t v σ H Q →
  wpAny (model X.prog X.w) X.A (assign target X.env u) (fun _ s'=>∃σ' H',Inv X pins σ' H' s'∧Q σ' H') X.xe s
def PGs (X:Cx) (ts:List Expr) (t:TGs):Prop :=
 ∀(pins:List (Addr×Obj)) (s:Shared) (σ:St) (H:Hp) (vs:List V) (us:List Value) (Q:St→Hp→Prop),Inv X pins σ H s→Vals vs us→t vs σ H Q →
  wpAny (model X.prog X.w) X.A (assignInOrder ((assignEach ts X.env).map (·.2)) us) (fun _ s'=>∃σ' H',Inv X pins σ' H' s'∧Q σ' H') X.xe s
abbrev TSet:=V→V→V→Hp→(Hp→Prop)→Prop
def PSet (X:Cx) (t:TSet):Prop :=
 ∀(pins:List (Addr×Obj)) (s:Shared) (σ:St) (H:Hp) (o i v:V) (ov iv u:Value) (Q:Hp→Prop),Inv X pins σ H s→RelV o ov→RelV i iv→RelV v u→t o i v H Q →
  wpAny (model X.prog X.w) X.A (setItem ov iv u) (fun _ s'=>∃H',Inv X pins σ H' s'∧Q H') X.xe s
abbrev TIp:=V→V→Hp→VK→Prop
def PIp (X:Cx) (op:Operator) (t:TIp):Prop :=
 ∀(pins:List (Addr×Obj)) (s:Shared) (σ:St) (H:Hp) (x y:V) (v u:Value) (Q:VK),Inv X pins σ H s→RelV x v→RelV y u→t x y H Q →
  wpAny (model X.prog X.w) X.A (inplaceOp op v u) (EP X pins σ Q) X.xe s
section
variable {X:Cx} {pos:Pos}
def gName (i:Nat):TG:=fun v σ H Q=>Q (σ.set i (some v)) H
theorem pg_name {i:Nat} {x:Str} (hN:X.N.Nodup) (hi:X.N[i]?=some x) (hx:Loc X.env.scope x) (hf:X.fn x=true∨X.env.scope.names.lookup x=some .local:=by first | exact .inl rfl | exact .inr rfl | assumption):PG X (.Name x pos) (gName i):=by
 intro pins s σ H v u Q I r h
 exact wpAny_assign_Name (store_ok I hN hi hx r (fun s' I'=>⟨_,H,I',h⟩) hf)
def gNil:TGs:=fun vs σ H Q=>vs=[]∧Q σ H
def gCons (t:TG) (u:TGs):TGs:=fun vs σ H Q=>∃v r,vs=v::r∧t v σ H fun σ' H'=>u r σ' H' Q
theorem pgs_nil:PGs X [] gNil:=by
 intro pins s σ H vs us Q I r h
 obtain ⟨e,h⟩:=h
 subst e
 cases r
 exact assignInOrder_nil ⟨σ,H,I,h⟩
theorem pgs_cons {e:Expr} {es:List Expr} {t:TG} {u:TGs} (h1:PG X e t) (h2:PGs X es u)
  (hs:(assignEach (e::es) X.env).map (·.2)=assign e X.env::(assignEach es X.env).map (·.2):=by rfl):PGs X (e::es) (gCons t u):=by
 intro pins s σ H vs us Q I r h
 obtain ⟨v,vr,e1,h⟩:=h
 subst e1
 cases r with
 | cons r rr =>
  rw [hs]
  refine assignInOrder_cons (thn (h1 pins s σ H _ _ _ I r h) fun _ s1 ⟨σ1,H1,I1,q1⟩=>?_)
  exact h2 pins s1 σ1 H1 _ _ Q I1 rr q1
def gTup (K:PySem.W.Frag) (n:Nat) (t:TGs):TG:=fun v σ H Q=>∃a xs,v=.ref a∧SqT K H a xs∧xs.length=n∧t xs σ H Q
theorem pg_tup {es:List Expr} {k:Nat} {t:TGs} {n:Nat} (hc:X.calm=true) (h:PGs X es t)
  (hn:(assignEach es X.env).length=n:=by rfl) (hst:(assignEach es X.env).findIdx? (·.1)=none:=by rfl):PG X (.Tuple es k pos) (gTup X.K n t):=by
 intro pins s σ H v u Q I r hw
 obtain ⟨a,xs,e1,hq,hl,hw⟩:=hw
 subst e1
 cases r
 obtain ⟨its,rv,ht,hz⟩:=I.tuple hq
 refine assign_Tuple_tuple (I.ok.hd hc) ht (by simp [hn,←hl,rv.length]) hst fun h' hx=>?_
 have I1:Inv X pins σ H { s with heap:=h' }:=I.kept (t':=s.toks) fun b o e=>hx b o (Nat.ne_of_lt (Heap.lt_size e)) e
 exact h pins _ σ H xs _ Q I1 (by simpa using rv) hw
def gSub (to ti:TE) (t:TSet):TG:=fun v σ H Q=>to σ H fun o H1=>ti σ H1 fun i H2=>t o i v H2 fun H3=>Q σ H3
theorem pg_sub {o i:Expr} {to ti:TE} {t:TSet} (ho:PE X o to) (hi:PE X i ti) (hs:PSet X t)
  (ha:∀v,assign (.Subscript o i pos) X.env v=(do
   let ov ← holding [v] (eval o X.env)
   let iv ← holding [v,ov] (eval i X.env)
   standAt pos
   holding [v,ov,iv] (setItem ov iv v)
   release [v,ov,iv] []):=by intro _;rfl):PG X (.Subscript o i pos) (gSub to ti t):=by
 intro pins s σ H v u Q I r h
 rw [ha]
 refine wpAny_bind (wpAny_holding (thn (ho pins s σ H _ I h) fun ov s1 ⟨x,H1,I1,r1,q1⟩=>?_))
 refine wpAny_bind (wpAny_holding (thn (hi pins s1 σ H1 _ I1 q1) fun iv s2 ⟨y,H2,I2,r2,q2⟩=>?_))
 refine wpAny_bind (wpAny_standAt (wpAny_bind (wpAny_holding (thn (hs pins s2 σ H2 x y v ov iv u _ I2 r1 r2 r q2) fun _ s3 ⟨H3,I3,q3⟩=>?_))))
 exact wpAny_release ⟨σ,H3,I3,q3⟩
def tAsg (te:TE) (g:TG):TS:=fun D σ H=>te σ H fun x H1=>g x σ H1 D.nx
theorem ps_asg {tg e:Expr} {te:TE} {g:TG} (he:PE X e te) (hg:PG X tg g) (hs:swapsWithSole [tg] e pos.line X.env=pure false:=by rfl) (hw:swappedStores [tg] e X.env=pure none:=by rfl)
  (h1:(assignEach [tg] X.env).map (·.2)=[assign tg X.env]:=by rfl):PS X (.Assign [tg] e pos) (tAsg te g):=by
 intro pins s σ H D I h
 refine wpAny_Assign_stores (thn (he pins s σ H _ I h) fun v s1 ⟨x,H1,I1,r1,q1⟩=>?_) hs hw
 rw [h1]
 exact thn (hg pins s1 σ H1 x v _ I1 r1 q1) fun _ s2 q=>q
theorem ps_set {i:Nat} {x:Str} {e:Expr} {te:TE} {pos':Pos} (hN:X.N.Nodup) (hi:X.N[i]?=some x) (hx:Loc X.env.scope x) (he:PE X e te) (hs:swapsWith e (some (.Name x pos')) pos.line X.env=pure false:=by rfl) (hf:X.fn x=true∨X.env.scope.names.lookup x=some .local:=by first | exact .inl rfl | exact .inr rfl | assumption) :
  PS X (.Assign [.Name x pos'] e pos) (tAsg te (gName i)):=by
 intro pins s σ H D I h
 refine wpAny_Assign_Name (thn (he pins s σ H _ I h) fun v s1 ⟨y,H1,I1,r1,q1⟩=>?_) hs
 exact store_ok I1 hN hi hx r1 (fun s2 I2=>⟨_,H1,I2,q1⟩) hf
def tAug (i:Nat) (te:TE) (ti:TIp):TS:=fun D σ H=>∃x,σ[i]?=some (some x)∧te σ H fun y H1=>ti x y H1 fun z H2=>D.nx (σ.set i (some z)) H2
theorem ps_aug {i:Nat} {x:Str} {e:Expr} {te:TE} {op:Operator} {ti:TIp} {pos':Pos} (hN:X.N.Nodup) (hi:X.N[i]?=some x) (hx:Loc X.env.scope x) (he:PE X e te) (ho:PIp X op ti) (hf:X.fn x=true∨X.env.scope.names.lookup x=some .local:=by first | exact .inl rfl | exact .inr rfl | assumption) :
  PS X (.AugAssign (.Name x pos') op e pos) (tAug i te ti):=by
 intro pins s σ H D I h
 obtain ⟨v,e1,h⟩:=h
 obtain ⟨m,hn,hl⟩:=I.loc
 have vis:Vis X.env.scope x:=by rcases hx with k | k;exact .inl k;exact .inr (.inl k)
 obtain ⟨u,r,l⟩:=hl i x v hi e1 vis
 refine wpAny_AugAssign_Name ?_
 have go:wpAny (model X.prog X.w) X.A (eval e X.env) (fun w s₂=>wpAny (model X.prog X.w) X.A (inplaceOp op u w) (fun r s₃=>wpAny (model X.prog X.w) X.A (storeName X.env x r) (fun _=>SP X pins D .next) X.xe s₃) X.xe s₂) X.xe s:=by
  refine thn (he pins s σ H _ I h) fun w s1 ⟨y,H1,I1,r1,q1⟩=>?_
  refine thn (ho pins s1 σ H1 v y u w _ I1 r r1 q1) fun z s2 ⟨zv,H2,I2,r2,q2⟩=>?_
  exact store_ok I2 hN hi hx r2 (fun s3 I3=>⟨_,H2,I3,q2⟩) hf
 rcases l with ⟨hk,hm⟩ | ⟨hk,c,hc,hcell⟩
 ·exact wpAny_loadName_local I.ok.kind hk hn hm go
 ·rcases hk with hk | hk
  ·exact wpAny_loadName_cell I.ok.kind hk hc hcell go
  ·rcases hx with k | k
   ·have:X.env.scope.names.lookup x=some .free:=hk
    rw [k] at this;cases this
   ·have:X.env.scope.names.lookup x=some .free:=hk
    rw [k] at this;cases this
def ipI (f:Int→Int→Int):TIp:=fun x y H Q=>∃i j,x=.int i∧y=.int j∧Q (.int (f i j)) H
theorem ip_add:PIp X .Add (ipI fun i j=>i+j):=by
 intro pins s σ H x y v u Q I r1 r2 h
 obtain ⟨i,j,e1,e2,q⟩:=h
 subst e1;subst e2
 obtain ⟨t,rfl⟩:=r1
 obtain ⟨t',rfl⟩:=r2
 exact iadd_int ⟨.int _,H,I.tok _,⟨_,rfl⟩,q⟩
end
section
variable {X:Cx} {pos:Pos}
def tWhile (c:TT) (tb:TS):TS:=fun D σ H=>∃W:Nat→St→Hp→Prop,(∃m,W m σ H)∧∀m σ H,W m σ H →
 c σ H fun b H1=>if b=true then ∃N:St→Hp→Prop,(∀σ' H',N σ' H'→∃m',m' < m∧W m' σ' H')∧tb { D with nx:=N,ct:=N,bk:=D.nx } σ H1 else D.nx σ H1
theorem ps_while {c:Expr} {body:List Stmt} {tc:TT} {tb:TS} (hp:PassesOwn (model X.prog X.w) X.A X.env X.xe) (hc:PT X c tc) (hb:PSs X body tb):PS X (.While c body [] pos) (tWhile tc tb):=by
 intro pins s σ H D I h
 obtain ⟨W,⟨m0,w0⟩,turn⟩:=h
 refine wpAny_While (codeAny_whileLoop (fun n s'=>∃σ' H',Inv X pins σ' H' s'∧W n σ' H') ?_ m0 ⟨σ,H,I,w0⟩)
 rintro n s1 ⟨σ1,H1,I1,w1⟩
 refine wpAny_passesOwn hp (thn (hc pins s1 σ1 H1 _ I1 (turn n σ1 H1 w1)) fun b s2 ⟨H2,I2,q2⟩=>?_)
 cases b with
 | true =>
  obtain ⟨N,hN,q2⟩:=q2
  rw [if_pos rfl]
  refine wpAny_passesOwn hp (thn (hb pins s2 σ1 H2 _ I2 q2) fun f s3 q3=>?_)
  cases f with
  | next =>
   obtain ⟨σ3,H3,I3,n3⟩:=q3
   obtain ⟨m',hm,w3⟩:=hN σ3 H3 n3
   exact ⟨m',hm,σ3,H3,I3,w3⟩
  | cont =>
   obtain ⟨σ3,H3,I3,n3⟩:=q3
   obtain ⟨m',hm,w3⟩:=hN σ3 H3 n3
   exact ⟨m',hm,σ3,H3,I3,w3⟩
  | brk=>exact q3
  | ret v=>exact q3
 | false =>
  rw [if_neg Bool.false_ne_true]
  exact wpAny_execs_nil ⟨σ1,H2,I2,q2⟩
end
structure It where
 go:Nat→Hp→Prop
 yld:Nat→Hp→V→Hp→Prop
 stop:Nat→Hp→Prop
def FpOk (X:Cx) (pins:List (Addr×Obj)) (H:Hp) (b:Addr):Prop :=
 H b=none∧b≠X.env.locals∧b ∉ X.fs∧(b∈X.ex∨X.s_0.heap.objs.size≤b)∧(∀x c,X.env.cells.lookup x=some c→c≠b)∧∀p∈X.pn++pins,p.1≠b
theorem Inv.fpOk {X:Cx} {pins:List (Addr×Obj)} {σ:St} {H H':Hp} {s:Shared} {b:Addr} (I:Inv X pins σ H s) (hb:s.heap.objs.size≤b) (hn:H' b=none):FpOk X pins H' b:=by
 refine ⟨hn,Nat.ne_of_gt (Nat.lt_of_lt_of_le I.lt hb),I.nofs hb,.inr (Nat.le_trans I.sz hb),fun x c e z=>?_,fun p hp z=>?_⟩
 ·obtain ⟨v,q⟩:=I.cell x c e
  exact absurd (Nat.lt_of_lt_of_le q.lt (by rw [z];exact hb)) (Nat.lt_irrefl _)
 ·exact absurd (Nat.lt_of_lt_of_le (Heap.lt_size (I.pin p hp).1) (by rw [z];exact hb)) (Nat.lt_irrefl _)
structure Turn (P:Program) (w:World) (K:PySem.W.Frag) (tg:Expr) (J:It) (fp:List Addr) (it:Addr) (tn:Nat→Heap→Prop):Prop where
 mem:it∈fp
 obj:∀i h,tn i h→∀b∈fp,∃o,h.get? b=some o∧∀v,o.data≠.cell v
 keep:∀i h h',tn i h→(∀b∈fp,∀o,h.get? b=some o→h'.get? b=some o)→tn i h'
 item:∀(X:Cx),X.prog=P→X.w=w→X.K=K→X.calm=true→∀(i:Nat) (pins:List (Addr×Obj)) (s:Shared) (σ:St) (H:Hp) (E:Value→Shared→Prop),Inv X pins σ H s→(∀b∈fp,FpOk X pins H b)→tn i s.heap→J.go i H →
  wpAny (model P w) X.A (pyNext (.ref it)) (fun r s1=>∃u,r=some u ∧
   wpAny (model P w) X.A (letOwnedTupleGo tg (.ref it) u) (fun _ s2=>∃x H',Inv X pins σ H' s2∧RelV x u∧J.yld i H x H'∧tn (i+1) s2.heap∧∀b∈fp,H' b=none) E s1) E s
 done:∀(X:Cx),X.prog=P→X.w=w→X.K=K→X.calm=true→∀(i:Nat) (pins:List (Addr×Obj)) (s:Shared) (σ:St) (H:Hp) (E:Value→Shared→Prop),Inv X pins σ H s→(∀b∈fp,FpOk X pins H b)→tn i s.heap→J.stop i H →
  wpAny (model P w) X.A (pyNext (.ref it)) (fun r s1=>r=none∧Inv X pins σ H s1) E s
 self:∀(A:Around) (i:Nat) (s:Shared) (Q:Value→Shared→Prop) (E:Value→Shared→Prop),tn i s.heap→Q (.ref it) s→wpAny (model P w) A (pyIter (.ref it)) Q E s
abbrev TI:=St→Hp→(It→Hp→Prop)→Prop
def PIE (X:Cx) (pins:List (Addr×Obj)) (σ:St) (tg:Expr) (R:It→Hp→Prop) (itv:Value) (s2:Shared):Prop :=
 ∃(it:Addr) (fp:List Addr) (tn:Nat→Heap→Prop) (J:It) (H':Hp),itv=.ref it∧Inv X pins σ H' s2∧Turn X.prog X.w X.K tg J fp it tn∧tn 0 s2.heap∧(∀b∈fp,FpOk X pins H' b)∧R J H'
def PI (X:Cx) (tg iter:Expr) (wi:TI):Prop :=
 ∀(pins:List (Addr×Obj)) (s:Shared) (σ:St) (H:Hp) (R:It→Hp→Prop),Inv X pins σ H s→wi σ H R →
  wpAny (model X.prog X.w) X.A (eval iter X.env) (fun v s1=>wpAny (model X.prog X.w) X.A (pyIter v) (PIE X pins σ tg R) X.xe s1) X.xe s
theorem go_of {M : Model} {A : Around} {E : Value → Shared → Prop} {s : Shared} {tg : Expr} {it : Addr} {u : Value} {o : Obj} {n : String} {vs : Array Value} {Q : Unit → Shared → Prop} (ho : s.heap.get? it = some o) (hc : o.cls = .type n) (hd : o.data = .fields vs)
    (hn : ["enumerate", "zip", "dict_itemiterator", "dict_reverseitemiterator", "odict_iterator", "itertools.zip_longest", "itertools.pairwise"].contains n = false) (hQ : Q () s) : wpAny M A (letOwnedTupleGo tg (.ref it) u) Q E s := by
  unfold letOwnedTupleGo
  cases tg <;> first
    | exact wpAny_pure hQ
    | (cases u <;> first
        | exact wpAny_pure hQ
        | (refine wpAny_bind (wpAny_load ho ?_)
           rw [hc, hd]
           show wpAny M A (if (["enumerate", "zip", "dict_itemiterator", "dict_reverseitemiterator", "odict_iterator", "itertools.zip_longest", "itertools.pairwise"].contains n && vs[0]? == some (rawInt _)) = true then _ else _) Q E s
           rw [if_neg (by intro h; rw [hn, Bool.false_and] at h; cases h)]
           exact wpAny_pure hQ))
def Itl (K:PySem.W.Frag) (a:Addr):It :=
 ⟨fun i H=>∃xs x,SqL K H a xs∧xs[i]?=some x,fun i H x H'=>H'=H∧∀xs,SqL K H a xs→xs[i]?=some x,fun i H=>∃xs,SqL K H a xs∧xs.length≤i⟩
def Itr (lo:Int) (n:Nat):It:=⟨fun i _=>i < n,fun i H x H'=>H'=H∧x=.int (lo+i),fun i _=>n≤i⟩
theorem turn_list {P:Program} {w:World} {K:PySem.W.Frag} {tg:Expr} (a it:Addr):Turn P w K tg (Itl K a) [it] it (fun i h=>h.IsListIter it a i) where
 mem:=by simp
 obj:=fun i h st b hb=>by
  have e:b=it:=by simpa using hb
  subst e
  obtain ⟨o,e,c,d⟩:=st
  exact ⟨o,e,fun v z=>by rw [d] at z;cases z⟩
 keep:=fun i h h' st k=>st.at fun o e=>k it (by simp) o e
 item:=by
  intro X hP hw hK hc i pins s σ H E I hf st hg
  subst hP hw hK
  obtain ⟨xs,x,hq,hx⟩:=hg
  obtain ⟨its,rv,p,hz⟩:=I.list hq
  obtain ⟨u,hu,ru⟩:=rv.get hx
  obtain ⟨f0,f1,f2,f3,f4,f5⟩:=hf it (by simp)
  refine wpAny_pyNext_list_item st p.isList (x:=u) (by simpa using hu) fun h' st' sb=>?_
  have I1:Inv X pins σ H { s with heap:=h' }:=I.turned (t':=s.toks) (fun b o hb e=>(sb.2 b hb).trans e) f0 f1 f3 f4 f5
  obtain ⟨o,e,c,d⟩:=id st'
  exact ⟨u,rfl,go_of (s:={ s with heap:=h' }) e c d (by decide) ⟨x,H,I1,ru,⟨rfl,fun ys hy=>by rw [I.list_inj hy hq];exact hx⟩,st',fun b hb=>(hf b hb).1⟩⟩
 done:=by
  intro X hP hw hK hc i pins s σ H E I hf st hg
  subst hP hw hK
  obtain ⟨xs,hq,hx⟩:=hg
  obtain ⟨its,rv,p,hz⟩:=I.list hq
  obtain ⟨f0,f1,f2,f3,f4,f5⟩:=hf it (by simp)
  have hl:=rv.length
  exact wpAny_pyNext_list_end (I.ok.hd hc) st p.isList (by simp;omega) fun h' eb=>⟨rfl,I.turned (t':=s.toks) (fun b o hb e=>eb b o hb e) f0 f1 f3 f4 f5⟩
 self:=fun _ _ _ _ _ st h=>wpAny_pyIter_listiter st h
theorem turn_range {P:Program} {w:World} {K:PySem.W.Frag} {tg:Expr} (it:Addr) (lo:Int) (n:Nat):Turn P w K tg (Itr lo n) [it] it (fun i h=>IsRangeIter h it (lo+(i:Nat) * 1) ((n:Int) - (i:Nat)) 1) where
 mem:=by simp
 obj:=fun i h st b hb=>by
  have e:b=it:=by simpa using hb
  subst e
  exact ⟨_,st,fun v z=>by
   have z':Data.fields _=Data.cell v:=z
   cases z'⟩
 keep:=fun i h h' st k=>k it (by simp) _ st
 item:=by
  intro X hP hw hK hc i pins s σ H E I hf st hg
  subst hP hw hK
  obtain ⟨f0,f1,f2,f3,f4,f5⟩:=hf it (by simp)
  have W:=Walks.range (prog:=X.prog) (w:=X.w) (I.ok.hd hc) it lo 1 n
  refine W.item i s _ _ hg st fun v h' tk hv st' kk=>?_
  obtain ⟨t,rfl⟩:=hv
  have I1:Inv X pins σ H { s with heap:=h',toks:=tk }:=I.turned (fun b o hb e=>kk b o (by simpa using hb) e) f0 f1 f3 f4 f5
  refine ⟨_,rfl,go_of (s:={ s with heap:=h',toks:=tk }) (n:="range_iterator") st' rfl rfl (by decide) ⟨.int (lo+i),H,I1,⟨t,?_⟩,⟨rfl,rfl⟩,st',fun b hb=>(hf b hb).1⟩⟩
  rw [Int.mul_one]
 done:=by
  intro X hP hw hK hc i pins s σ H E I hf st hg
  subst hP hw hK
  obtain ⟨f0,f1,f2,f3,f4,f5⟩:=hf it (by simp)
  exact wpAny_pyNext_range_end (I.ok.hd hc) st (by have:n≤i:=hg;omega) fun h' eb=>⟨rfl,I.turned (t':=s.toks) (fun b o hb e=>eb b o hb e) f0 f1 f3 f4 f5⟩
 self:=fun _ _ _ _ _ st h=>wpAny_pyIter_rangeiter st h
end L2
namespace L2
open PySem PySem.Spec PyProof.Rows
section
variable {X:Cx} {tg:Expr}
def iList (K:PySem.W.Frag) (tl:TE):TI:=fun σ H R=>tl σ H fun x H1=>∃a,x=.ref a∧(∃xs,SqL K H1 a xs)∧R (Itl K a) H1
theorem pi_list {l:Expr} {tl:TE} (hl:PE X l tl):PI X tg l (iList X.K tl):=by
 intro pins s σ H R I h
 refine thn (hl pins s σ H _ I h) fun v s1 ⟨x,H1,I1,r1,q1⟩=>?_
 obtain ⟨a,e,⟨xs,hq⟩,q⟩:=q1
 subst e
 cases r1
 obtain ⟨its,rv,p,hz⟩:=I1.list hq
 refine wpAny_pyIter_list p.isList ?_
 refine ⟨s1.heap.objs.size,[s1.heap.objs.size],_,_,H1,rfl,I1.kept (t':=s1.toks) fun b o e=>Heap.get?_push_of_some _ e,turn_list a _,⟨_,Heap.get?_push_size _ rfl,rfl,rfl⟩,fun b hb=>?_,q⟩
 have e:b=s1.heap.objs.size:=by simpa using hb
 subst e
 exact I1.fpOk (Nat.le_refl _) (I1.hok.fresh (Nat.le_refl _))
theorem range_it {pins:List (Addr×Obj)} {σ:St} {H:Hp} {s:Shared} {R:It→Hp→Prop} {E:Value→Shared→Prop} {lo hi:Int} {t u v:Tok} {tk:Nat} (I:Inv X pins σ H s) (h1:-(2^62)≤lo) (h2:lo < 2^62) (h3:-(2^62)≤hi) (h4:hi < 2^62)
  (q:R (Itr lo (hi - lo).toNat) H):wpAny (model X.prog X.w) X.A (pyIter (.ref s.heap.objs.size)) (PIE X pins σ tg R) E { s with heap:=s.heap.push { cls:=.type "range",data:=.fields #[.int lo t,.int hi u,.int 1 v] },toks:=tk }:=by
 refine wpAny_pyIter_range (IsRange.new ..) (small_one h1 h2 h3 h4) ?_
 have I1:Inv X pins σ H { s with heap:=s.heap.push { cls:=.type "range",data:=.fields #[.int lo t,.int hi u,.int 1 v] },toks:=tk }:=I.kept fun b o e=>Heap.get?_push_of_some _ e
 refine ⟨(s.heap.push { cls:=.type "range",data:=.fields #[.int lo t,.int hi u,.int 1 v] }).objs.size,[(s.heap.push { cls:=.type "range",data:=.fields #[.int lo t,.int hi u,.int 1 v] }).objs.size],_,_,H,rfl,
  I1.kept (t':=tk) fun b o e=>Heap.get?_push_of_some _ e,turn_range _ lo (hi - lo).toNat,?_,fun b hb=>?_,q⟩
 ·have e1:lo+((0:Nat):Int) * 1=lo:=by simp
  have e2:(((hi - lo).toNat:Nat):Int) - ((0:Nat):Int)=Builtin.Range.rangeSize lo hi 1:=by rw [rangeSize_one];split <;> omega
  show IsRangeIter _ _ (lo+((0:Nat):Int) * 1) ((((hi - lo).toNat:Nat):Int) - ((0:Nat):Int)) 1
  rw [e1,e2]
  exact Heap.get?_push_size _ rfl
 ·have e:b=(s.heap.push { cls:=.type "range",data:=.fields #[.int lo t,.int hi u,.int 1 v] }).objs.size:=by simpa using hb
  subst e
  exact I1.fpOk (Nat.le_refl _) (I1.hok.fresh (Nat.le_refl _))
def iRng1 (ta:TA):TI:=fun σ H R=>ta σ H fun vs H1=>∃j:Int,vs=[.int j]∧-(2^62)≤j∧j < 2^62∧R (Itr 0 j.toNat) H1
theorem pi_range1 {a:Expr} {ta:TA} {p pos:Pos} (hg:Gl X "range") (hm:X.mg "range"=none) (ha:PA X [a] ta) (hs:starEach [a] X.env=[(false,eval a X.env)]:=by rfl):PI X tg (.Call (.Name "range" p) [a] [] pos) (iRng1 ta):=by
 intro pins s σ H R I h
 refine Call_ (ld_blt I hg hm boot_range (PyProof.Rows.callWith_type1 (thn (ha pos pins s σ H _ I h) fun us s1 ⟨vs,H1,I1,r1,q1⟩=>?_) hs rfl))
 obtain ⟨j,e,q1,q2,q⟩:=q1
 subst e
 cases r1 with
 | cons r rr =>
  cases rr
  obtain ⟨t,rfl⟩:=r
  exact call_range_1 (range_it I1 (by omega) (by omega) q1 q2 (by simpa using q))
def tFor (wi:TI) (g:TG) (tb:TS):TS:=fun D σ H=>wi σ H fun J H1=>∃W:Nat→Nat→St→Hp→Prop,(∃m,W 0 m σ H1)∧∀i m σ H,W i m σ H →
 (J.stop i H∧D.nx σ H)∨(J.go i H∧∃N:St→Hp→Prop,(∀σ' H',N σ' H'→∃m',m' < m∧W (i+1) m' σ' H')∧∀x H',J.yld i H x H'→g x σ H' fun σ2 H2=>tb { D with nx:=N,ct:=N,bk:=D.nx } σ2 H2)
def pinsAt (fp:List Addr) (h:Heap):List (Addr×Obj):=fp.filterMap fun b=>(h.get? b).map fun o=>(b,o)
theorem mem_pinsAt {fp:List Addr} {h:Heap} {b:Addr} {o:Obj} (hb:b∈fp) (e:h.get? b=some o):(b,o)∈pinsAt fp h:=List.mem_filterMap.mpr ⟨b,hb,by rw [e];rfl⟩
theorem of_pinsAt {fp:List Addr} {h:Heap} {p:Addr×Obj} (hp:p∈pinsAt fp h):p.1∈fp∧h.get? p.1=some p.2:=by
 obtain ⟨b,hb,e⟩:=List.mem_filterMap.mp hp
 cases q:h.get? b with
 | none=>rw [q] at e;cases e
 | some o =>
  rw [q] at e
  have e':(b,o)=p:=Option.some.inj e
  subst e'
  exact ⟨hb,q⟩
theorem Inv.pinned {pins:List (Addr×Obj)} {σ:St} {H:Hp} {s:Shared} {fp:List Addr} (I:Inv X pins σ H s) (hf:∀b∈fp,FpOk X pins H b) (ho:∀b∈fp,∃o,s.heap.get? b=some o∧∀v,o.data≠.cell v):Inv X (pins++pinsAt fp s.heap) σ H s :=
 I.pins_of fun p hp=>(List.mem_append.mp hp).elim (fun z=>I.pin p (List.mem_append_right _ z)) fun z=>by
  obtain ⟨hb,e⟩:=of_pinsAt z
  obtain ⟨f0,f1,f2,_⟩:=hf p.1 hb
  obtain ⟨o,e',d⟩:=ho p.1 hb
  rw [e] at e';cases e'
  exact ⟨e,f0,f1,f2,d⟩
theorem Inv.unpinned {pins pl:List (Addr×Obj)} {σ:St} {H:Hp} {s:Shared} (I:Inv X (pins++pl) σ H s):Inv X pins σ H s:=I.pins_of fun p hp=>I.pin p (List.mem_append_right _ (List.mem_append_left _ hp))
theorem ps_for {iter:Expr} {body:List Stmt} {wi:TI} {g:TG} {tb:TS} {pos:Pos} (hp:PassesOwn (model X.prog X.w) X.A X.env X.xe) (hc:X.calm=true) (hi:PI X tg iter wi) (hg:PG X tg g) (hb:PSs X body tb)
  (hs:∀x,foldedSetIterable iter X.env x=pure x:=by intro _;rfl):PS X (.For tg iter body [] pos) (tFor wi g tb):=by
 intro pins s σ H D I h
 refine wpAny_For (thn (hi pins s σ H _ I h) fun v s1 h1=>thn h1 fun itv s2 h2=>?_) hs
 obtain ⟨it,fp,tn,J,H2,e,I2,T,st2,f2,W,⟨m0,w0⟩,turn⟩:=h2
 subst e
 have stat:∀{H':Hp},(∀b∈fp,H' b=none)→∀b∈fp,FpOk X pins H' b:=fun hn b hb=>⟨hn b hb,(f2 b hb).2⟩
 refine codeAny_forLoop_any (fun n s'=>∃i σ' H',Inv X pins σ' H' s'∧tn i s'.heap∧(∀b∈fp,H' b=none)∧W i n σ' H') ?_ m0 ⟨0,σ,H2,I2,st2,fun b hb=>(f2 b hb).1,w0⟩
 rintro n s3 ⟨i,σ3,H3,I3,st3,fr3,w3⟩
 rcases turn i n σ3 H3 w3 with ⟨stop,qn⟩ | ⟨go,N,hN,step⟩
 ·refine wpAny_passesOwn hp (thn (T.done X rfl rfl rfl hc i pins s3 σ3 H3 X.xe I3 (stat fr3) st3 stop) fun r s4 ⟨hr,I4⟩=>?_)
  subst hr
  exact wpAny_execs_nil ⟨σ3,H3,I4,qn⟩
 ·refine wpAny_passesOwn hp (thn (T.item X rfl rfl rfl hc i pins s3 σ3 H3 X.xe I3 (stat fr3) st3 go) fun r s4 ⟨u,hr,h4⟩=>?_)
  subst hr
  refine wpAny_passesOwn hp (thn h4 fun _ s5 ⟨x,H5,I5,r5,y5,st5,fr5⟩=>?_)
  have I5':=I5.pinned (stat fr5) (T.obj _ _ st5)
  refine wpAny_passesOwn hp (thn (hg _ s5 σ3 H5 x u _ I5' r5 (step x H5 y5)) fun _ s6 ⟨σ6,H6,I6,q6⟩=>?_)
  refine wpAny_passesOwn hp (thn (hb _ s6 σ6 H6 _ I6 q6) fun f s7 q7=>?_)
  have again:∀{σ7:St} {H7:Hp},Inv X (pins++pinsAt fp s5.heap) σ7 H7 s7→N σ7 H7→∃m,m < n∧∃i σ' H',Inv X pins σ' H' s7∧tn i s7.heap∧(∀b∈fp,H' b=none)∧W i m σ' H':=fun {σ7 H7} I7 n7=>by
   obtain ⟨m',hm,w7⟩:=hN σ7 H7 n7
   refine ⟨m',hm,i+1,σ7,H7,I7.unpinned,T.keep _ _ _ st5 fun b hb o e=>(I7.pin (b,o) (List.mem_append_right _ (List.mem_append_right _ (mem_pinsAt hb e)))).1,fun b hb=>?_,w7⟩
   obtain ⟨o,e,d⟩:=T.obj _ _ st5 b hb
   exact (I7.pin (b,o) (List.mem_append_right _ (List.mem_append_right _ (mem_pinsAt hb e)))).2.1
  cases f with
  | next=>obtain ⟨σ7,H7,I7,n7⟩:=q7;exact again I7 n7
  | cont=>obtain ⟨σ7,H7,I7,n7⟩:=q7;exact again I7 n7
  | brk=>obtain ⟨σ7,H7,I7,q7⟩:=q7;exact ⟨σ7,H7,I7.unpinned,q7⟩
  | ret v=>obtain ⟨x7,σ7,H7,I7,r7,q7⟩:=q7;exact ⟨x7,σ7,H7,I7.unpinned,r7,q7⟩
end
theorem for_list {K:PySem.W.Frag} {a:Addr} {xs:List V} {g:TG} {tb:TS} {D:Ends} {σ:St} {H:Hp} (Pv:Nat→St→Hp→Prop) (h0:Pv 0 σ H) (hl:∀i σ H,i≤xs.length→Pv i σ H→SqL K H a xs)
  (hs:∀i x σ H,xs[i]?=some x→Pv i σ H→g x σ H fun σ2 H2=>tb { D with nx:=Pv (i+1),ct:=Pv (i+1),bk:=D.nx } σ2 H2) (hd:∀σ H,Pv xs.length σ H→D.nx σ H) :
  ∃W:Nat→Nat→St→Hp→Prop,(∃m,W 0 m σ H)∧∀i m σ H,W i m σ H →
   ((Itl K a).stop i H∧D.nx σ H)∨((Itl K a).go i H∧∃N:St→Hp→Prop,(∀σ' H',N σ' H'→∃m',m' < m∧W (i+1) m' σ' H')∧∀x H',(Itl K a).yld i H x H'→g x σ H' fun σ2 H2=>tb { D with nx:=N,ct:=N,bk:=D.nx } σ2 H2):=by
 refine ⟨fun i m σ H=>m=xs.length - i∧i≤xs.length∧Pv i σ H,⟨xs.length,by simp,Nat.zero_le _,h0⟩,?_⟩
 rintro i m σ H ⟨rfl,hi,p⟩
 have q:=hl i σ H hi p
 by_cases hlt:i < xs.length
 ·refine .inr ⟨⟨xs,xs[i],q,by simp [hlt]⟩,Pv (i+1),fun σ' H' p'=>⟨xs.length - (i+1),by omega,rfl,hlt,p'⟩,fun x H' y=>?_⟩
  obtain ⟨e,y⟩:=y
  subst e
  exact hs i x σ _ (y xs q) p
 ·have e:i=xs.length:=by omega
  subst e
  exact .inl ⟨⟨xs,q,Nat.le_refl _⟩,hd σ H p⟩
end L2
namespace L2
open PySem PySem.Spec PyProof.Rows
abbrev R2:=V→V→Hp→VK→Prop
def OpR (X:Cx) (f:Value→Value→Sem Value) (r:R2):Prop :=
 ∀(pins:List (Addr×Obj)) (s:Shared) (σ:St) (H:Hp) (x y:V) (v u:Value) (Q:VK),Inv X pins σ H s→RelV x v→RelV y u→r x y H Q →
  wpAny (model X.prog X.w) X.A (f v u) (EP X pins σ Q) X.xe s
def UnR (X:Cx) (f:Value→Sem Value) (r:V→Hp→VK→Prop):Prop :=
 ∀(pins:List (Addr×Obj)) (s:Shared) (σ:St) (H:Hp) (x:V) (v:Value) (Q:VK),Inv X pins σ H s→RelV x v→r x H Q →
  wpAny (model X.prog X.w) X.A (f v) (EP X pins σ Q) X.xe s
def CallR (X:Cx) (f:Value) (r:List V→Hp→VK→Prop):Prop :=
 ∀(pins:List (Addr×Obj)) (s:Shared) (σ:St) (H:Hp) (xs:List V) (us:List Value) (Q:VK),Inv X pins σ H s→Vals xs us→r xs H Q →
  wpAny (model X.prog X.w) X.A (call f us) (EP X pins σ Q) X.xe s
def tOp (r:R2) (ta tb:TE):TE:=fun σ H Q=>ta σ H fun x H1=>tb σ H1 fun y H2=>r x y H2 Q
def tUn (r:V→Hp→VK→Prop) (ta:TE):TE:=fun σ H Q=>ta σ H fun x H1=>r x H1 Q
def rI (C:Int→Int→Prop) (g:Int→Int→V):R2:=fun x y H Q=>∃i j,x=.int i∧y=.int j∧C i j∧Q (g i j) H
def rI0 (g:Int→Int→V):R2:=fun x y H Q=>∃i j,x=.int i∧y=.int j∧Q (g i j) H
def rU (g:Int→V):V→Hp→VK→Prop:=fun x H Q=>∃i,x=.int i∧Q (g i) H
section
variable {X:Cx} {a b c:Expr} {ta tb tc:TE} {pos:Pos}
theorem binT (ha:PE X a ta) (hb:PE X b tb) {pins:List (Addr×Obj)} {s:Shared} {σ:St} {H:Hp} {R:V→V→Hp→Prop} (I:Inv X pins σ H s)
  (h:ta σ H fun x H1=>tb σ H1 fun y H2=>R x y H2) {Q:Value→Shared→Prop} {f:Value→Value→Sem Value}
  (hf:∀v u s2 x y H2,Inv X pins σ H2 s2→RelV x v→RelV y u→R x y H2→wpAny (model X.prog X.w) X.A (f v u) Q X.xe s2) :
  wpAny (model X.prog X.w) X.A (eval a X.env) (fun v s₁=>wpAny (model X.prog X.w) X.A (eval b X.env) (fun u s₂=>wpAny (model X.prog X.w) X.A (f v u) Q X.xe s₂) X.xe s₁) X.xe s:=by
 refine thn (ha pins s σ H _ I h) fun v s1 ⟨x,H1,I1,r1,q1⟩=>?_
 refine thn (hb pins s1 σ H1 _ I1 q1) fun u s2 ⟨y,H2,I2,r2,q2⟩=>?_
 exact hf v u s2 x y H2 I2 r1 r2 q2
theorem pe_op {op:Operator} {r:R2} (ho:OpR X (binaryOp op) r) (ha:PE X a ta) (hb:PE X b tb):PE X (.BinOp a op b pos) (tOp r ta tb):=by
 intro pins s σ H Q I h
 exact wpAny_BinOp (binT ha hb I h fun v u s2 x y H2 I2 rx ry q=>ho pins s2 σ H2 x y v u Q I2 rx ry q)
theorem pe_un {op:UnaryOp} {r:V→Hp→VK→Prop} (ho:UnR X (unaryOp op) r) (ha:PE X a ta):PE X (.UnaryOp op a pos) (tUn r ta):=by
 intro pins s σ H Q I h
 exact UnaryOp_ (thn (ha pins s σ H _ I h) fun v s1 ⟨x,H1,I1,r1,q1⟩=>ho pins s1 σ H1 x v Q I1 r1 q1)
theorem opI {f:Value→Value→Sem Value} {C:Int→Int→Prop} {g:Int→Int→Int}
  (rule:∀(i j:Int) (t u:Tok) (s:Shared) (Q:Value→Shared→Prop) (E:Value→Shared→Prop),C i j→Q (.int (g i j) s.toks) { s with toks:=s.toks+1 }→wpAny (model X.prog X.w) X.A (f (.int i t) (.int j u)) Q E s) :
  OpR X f (rI C fun i j=>.int (g i j)):=by
 intro pins s σ H x y v u Q I rx ry h
 obtain ⟨i,j,rfl,rfl,hc,q⟩:=h
 obtain ⟨t,rfl⟩:=rx
 obtain ⟨t',rfl⟩:=ry
 exact rule i j t t' s _ _ hc ⟨.int (g i j),H,I.tok _,⟨_,rfl⟩,q⟩
theorem opI0 {f:Value→Value→Sem Value} {g:Int→Int→Int}
  (rule:∀(i j:Int) (t u:Tok) (s:Shared) (Q:Value→Shared→Prop) (E:Value→Shared→Prop),Q (.int (g i j) s.toks) { s with toks:=s.toks+1 }→wpAny (model X.prog X.w) X.A (f (.int i t) (.int j u)) Q E s) :
  OpR X f (rI0 fun i j=>.int (g i j)):=by
 intro pins s σ H x y v u Q I rx ry h
 obtain ⟨i,j,rfl,rfl,q⟩:=h
 obtain ⟨t,rfl⟩:=rx
 obtain ⟨t',rfl⟩:=ry
 exact rule i j t t' s _ _ ⟨.int (g i j),H,I.tok _,⟨_,rfl⟩,q⟩
theorem opB0 {f:Value→Value→Sem Value} {g:Int→Int→Bool}
  (rule:∀(i j:Int) (t u:Tok) (s:Shared) (Q:Value→Shared→Prop) (E:Value→Shared→Prop),Q (.bool (g i j)) s→wpAny (model X.prog X.w) X.A (f (.int i t) (.int j u)) Q E s) :
  OpR X f (rI0 fun i j=>.bl (g i j)):=by
 intro pins s σ H x y v u Q I rx ry h
 obtain ⟨i,j,rfl,rfl,q⟩:=h
 obtain ⟨t,rfl⟩:=rx
 obtain ⟨t',rfl⟩:=ry
 exact rule i j t t' s _ _ ⟨.bl (g i j),H,I,rfl,q⟩
def CDiv (i j:Int):Prop:=0 < j∧j < 1073741824
def CPow (i j:Int):Prop:=0≤j∧j≤1000000∧i.natAbs < 2^64
def CMul (i j:Int):Prop:=(-(2^64) < i∧i < 2^64)∨(-(2^64) < j∧j < 2^64)
theorem CMul.ok {i j:Int} (h:CMul i j):IntMulOk i j:=by
 rcases h with ⟨h1,h2⟩ | ⟨h1,h2⟩
 ·exact .of_left (intBits_le_64 h1 h2)
 ·exact .of_right (intBits_le_64 h1 h2)
theorem two_pow_nn (k:Nat):(0:Int)≤2^k:=by
 rw [two_pow_cast]
 exact Int.natCast_nonneg _
theorem op_add:OpR X (binaryOp .Add) (rI0 fun i j=>.int (i+j)):=opI0 fun _ _ _ _ _ _ _ q=>add_int q
theorem op_sub:OpR X (binaryOp .Sub) (rI0 fun i j=>.int (i - j)):=opI0 fun _ _ _ _ _ _ _ q=>sub_int q
theorem op_mul:OpR X (binaryOp .Mult) (rI CMul fun i j=>.int (i * j)):=opI fun _ _ _ _ _ _ _ hc q=>mul_int q hc.ok
theorem op_fdiv:OpR X (binaryOp .FloorDiv) (rI CDiv fun i j=>.int (i / j)):=opI fun i j _ _ _ _ _ hc q=>by
 have h1:(0:Int) < j:=hc.1
 have h2:j < 1073741824:=hc.2
 exact floordiv_int (by omega) (by rw [Int.fdiv_eq_ediv_of_nonneg i (by omega)];exact q) (.inl (PyProof.noPylong_small (by omega)))
theorem op_shl:OpR X (binaryOp .LShift) (rI CPow fun i j=>.int (i * 2^j.toNat)):=opI fun _ _ _ _ _ _ _ hc q=>lshift_int_small hc.1 hc.2.1 hc.2.2 q
theorem op_shr:OpR X (binaryOp .RShift) (rI (fun _ j=>0≤j) fun i j=>.int (i / 2^j.toNat)):=opI fun i j _ _ _ _ _ hc q =>
 rshift_int hc (by rw [Int.fdiv_eq_ediv_of_nonneg i (two_pow_nn _)];exact q)
theorem op_and:OpR X (binaryOp .BitAnd) (rI0 fun i j=>.int (Builtin.bitAnd i j)):=opI0 fun _ _ _ _ _ _ _ q=>and_int q
theorem op_or:OpR X (binaryOp .BitOr) (rI0 fun i j=>.int (Builtin.bitOr i j)):=opI0 fun _ _ _ _ _ _ _ q=>or_int q
theorem unI {f:Value→Sem Value} {g:Int→Int}
  (rule:∀(i:Int) (t:Tok) (s:Shared) (Q:Value→Shared→Prop) (E:Value→Shared→Prop),Q (.int (g i) s.toks) { s with toks:=s.toks+1 }→wpAny (model X.prog X.w) X.A (f (.int i t)) Q E s) :
  UnR X f (rU fun i=>.int (g i)):=by
 intro pins s σ H x v Q I rx h
 obtain ⟨i,rfl,q⟩:=h
 obtain ⟨t,rfl⟩:=rx
 exact rule i t s _ _ ⟨.int (g i),H,I.tok _,⟨_,rfl⟩,q⟩
theorem un_neg:UnR X (unaryOp .USub) (rU fun i=>.int (-i)):=unI fun _ _ _ _ _ q=>neg_int q
theorem un_inv:UnR X (unaryOp .Invert) (rU fun i=>.int (Builtin.bitNot i)):=unI fun _ _ _ _ _ q=>invert_int q
end
def scal:V→V→Bool
 | .non,.non=>true | .non,.int _=>true | .int _,.non=>true | .non,.bl _=>true | .bl _,.non=>true | .non,.str _=>true | .str _,.non=>true
 | .int _,.int _=>true | .bl _,.bl _=>true | .str _,.str _=>true | .byt _,.byt _=>true
 | .int _,.str _=>true | .str _,.int _=>true | .bl _,.str _=>true | .str _,.bl _=>true
 | _,_=>false
def rEq:R2:=fun x y H Q=>scal x y=true∧Q (.bl (decide (x=y))) H
def rNe:R2:=fun x y H Q=>scal x y=true∧Q (.bl (!decide (x=y))) H
theorem dec_int {i j:Int}:decide (V.int i=V.int j)=(i==j):=by
 rw [Bool.eq_iff_iff]
 simp
theorem dec_bl {i j:Bool}:decide (V.bl i=V.bl j)=(i==j):=by
 rw [Bool.eq_iff_iff]
 simp
theorem dec_str {i j:Str}:decide (V.str i=V.str j)=(i==j):=by
 rw [Bool.eq_iff_iff]
 simp
theorem dec_byt {i j:Array UInt8}:decide (V.byt i=V.byt j)=(i.toList==j.toList):=by
 rw [Bool.eq_iff_iff]
 cases i
 cases j
 simp
section
variable {X:Cx} {a b c:Expr} {ta tb tc:TE} {pos:Pos}
theorem fin_bl {pins:List (Addr×Obj)} {σ:St} {H:Hp} {s:Shared} {Q:VK} {k k':Bool} (I:Inv X pins σ H s) (q:Q (.bl k) H) (e:k=k'):EP X pins σ Q (.bool k') s:=by
 subst e
 exact ⟨.bl k,H,I,rfl,q⟩
theorem op_eq:OpR X (compareOp .Eq) rEq:=by
 intro pins s σ H x y v u Q I rx ry h
 obtain ⟨hs,q⟩:=h
 cases x with
 | non =>
  cases rx
  cases y with
  | non=>cases ry;exact PySem.EqNone.eq_none_none (fin_bl I q (by simp))
  | bl j=>cases ry;exact PySem.EqNone.eq_none_bool (fin_bl I q (by simp))
  | int j=>obtain ⟨t',rfl⟩:=ry;exact PySem.EqNone.eq_none_int (fin_bl I q (by simp))
  | str j=>obtain ⟨t',rfl⟩:=ry;exact PySem.EqNone.eq_none_str (fin_bl I q (by simp))
  | _=>exact absurd (show false=true from hs) Bool.false_ne_true
 | bl i =>
  cases rx
  cases y with
  | non=>cases ry;exact PySem.EqNone.eq_bool_none (fin_bl I q (by simp))
  | bl j=>cases ry;exact eq_bool (fin_bl I q dec_bl)
  | str j=>obtain ⟨t',rfl⟩:=ry;exact PySem.EqMixed.eq_bool_str (fin_bl I q (by simp))
  | _=>exact absurd (show false=true from hs) Bool.false_ne_true
 | int i =>
  obtain ⟨t,rfl⟩:=rx
  cases y with
  | non=>cases ry;exact PySem.EqNone.eq_int_none (fin_bl I q (by simp))
  | int j=>obtain ⟨t',rfl⟩:=ry;exact eq_int (fin_bl I q dec_int)
  | str j=>obtain ⟨t',rfl⟩:=ry;exact PySem.EqMixed.eq_int_str (fin_bl I q (by simp))
  | _=>exact absurd (show false=true from hs) Bool.false_ne_true
 | str i =>
  obtain ⟨t,rfl⟩:=rx
  cases y with
  | non=>cases ry;exact PySem.EqNone.eq_str_none (fin_bl I q (by simp))
  | bl j=>cases ry;exact PySem.EqMixed.eq_str_bool (fin_bl I q (by simp))
  | int j=>obtain ⟨t',rfl⟩:=ry;exact PySem.EqMixed.eq_str_int (fin_bl I q (by simp))
  | str j=>obtain ⟨t',rfl⟩:=ry;exact eq_str (fin_bl I q dec_str)
  | _=>exact absurd (show false=true from hs) Bool.false_ne_true
 | byt i =>
  obtain ⟨t,rfl⟩:=rx
  cases y with
  | byt j=>obtain ⟨t',rfl⟩:=ry;exact PySem.W.eq_bytes (fin_bl I q dec_byt)
  | _=>exact absurd (show false=true from hs) Bool.false_ne_true
 | _=>cases y <;> exact absurd (show false=true from hs) Bool.false_ne_true
theorem op_ne:OpR X (compareOp .NotEq) rNe:=by
 intro pins s σ H x y v u Q I rx ry h
 obtain ⟨hs,q⟩:=h
 cases x with
 | non =>
  cases rx
  cases y with
  | non=>cases ry;exact PySem.EqNone.ne_none_none (fin_bl I q (by simp))
  | bl j=>cases ry;exact PySem.EqNone.ne_none_bool (fin_bl I q (by simp))
  | int j=>obtain ⟨t',rfl⟩:=ry;exact PySem.EqNone.ne_none_int (fin_bl I q (by simp))
  | str j=>obtain ⟨t',rfl⟩:=ry;exact PySem.EqNone.ne_none_str (fin_bl I q (by simp))
  | _=>exact absurd (show false=true from hs) Bool.false_ne_true
 | bl i =>
  cases rx
  cases y with
  | non=>cases ry;exact PySem.EqNone.ne_bool_none (fin_bl I q (by simp))
  | bl j=>cases ry;exact ne_bool (fin_bl I q (congrArg not dec_bl))
  | str j=>obtain ⟨t',rfl⟩:=ry;exact PySem.EqMixed.ne_bool_str (fin_bl I q (by simp))
  | _=>exact absurd (show false=true from hs) Bool.false_ne_true
 | int i =>
  obtain ⟨t,rfl⟩:=rx
  cases y with
  | non=>cases ry;exact PySem.EqNone.ne_int_none (fin_bl I q (by simp))
  | int j=>obtain ⟨t',rfl⟩:=ry;exact ne_int (fin_bl I q (congrArg not dec_int))
  | str j=>obtain ⟨t',rfl⟩:=ry;exact PySem.EqMixed.ne_int_str (fin_bl I q (by simp))
  | _=>exact absurd (show false=true from hs) Bool.false_ne_true
 | str i =>
  obtain ⟨t,rfl⟩:=rx
  cases y with
  | non=>cases ry;exact PySem.EqNone.ne_str_none (fin_bl I q (by simp))
  | bl j=>cases ry;exact PySem.EqMixed.ne_str_bool (fin_bl I q (by simp))
  | int j=>obtain ⟨t',rfl⟩:=ry;exact PySem.EqMixed.ne_str_int (fin_bl I q (by simp))
  | str j=>obtain ⟨t',rfl⟩:=ry;exact ne_str (fin_bl I q (congrArg not dec_str))
  | _=>exact absurd (show false=true from hs) Bool.false_ne_true
 | byt i =>
  obtain ⟨t,rfl⟩:=rx
  cases y with
  | byt j=>obtain ⟨t',rfl⟩:=ry;exact PySem.W.ne_bytes (fin_bl I q (congrArg not dec_byt))
  | _=>exact absurd (show false=true from hs) Bool.false_ne_true
 | _=>cases y <;> exact absurd (show false=true from hs) Bool.false_ne_true
theorem op_lt:OpR X (compareOp .Lt) (rI0 fun i j=>.bl (decide (i < j))):=opB0 fun _ _ _ _ _ _ _ q=>lt_int q
theorem op_le:OpR X (compareOp .LtE) (rI0 fun i j=>.bl (decide (i≤j))):=opB0 fun _ _ _ _ _ _ _ q=>le_int q
theorem op_gt:OpR X (compareOp .Gt) (rI0 fun i j=>.bl (decide (j < i))):=opB0 fun _ _ _ _ _ _ _ q=>gt_int q
theorem op_ge:OpR X (compareOp .GtE) (rI0 fun i j=>.bl (decide (j≤i))):=opB0 fun _ _ _ _ _ _ _ q=>ge_int q
theorem nomark (b:Expr) {op:CmpOp} (h:op≠.In:=by decide) (h2:op≠.NotIn:=by decide):behindInMarks op b=false:=by
 have e1:(op==CmpOp.In)=false:=by cases op <;> first | rfl | exact absurd rfl h
 have e2:(op==CmpOp.NotIn)=false:=by cases op <;> first | rfl | exact absurd rfl h2
 cases b <;> simp [behindInMarks,e1,e2]
theorem pe_cmpR {op:CmpOp} {r:R2} (ho:OpR X (compareOp op) r) (ha:PE X a ta) (hb:PE X b tb) (hm:behindInMarks op b=false):PE X (.Compare a [op] [b] pos) (tOp r ta tb):=by
 intro pins s σ H Q I h
 exact wpAny_Compare1 (binT ha hb I h fun v u s2 x y H2 I2 rx ry q=>ho pins s2 σ H2 x y v u Q I2 rx ry q) hm
def tTest (t:TE):TT:=fun σ H Q=>t σ H fun x H'=>∃k,x=.bl k∧Q k H'
theorem pt_cmpR {op:CmpOp} {r:R2} (ho:OpR X (compareOp op) r) (ha:PE X a ta) (hb:PE X b tb) (hm:behindInMarks op b=false):PT X (.Compare a [op] [b] pos) (tTest (tOp r ta tb)):=by
 intro pins s σ H Q I h
 refine wpAny_isTrue_Compare1 (thn (ha pins s σ H _ I h) fun v s1 ⟨x,H1,I1,r1,q1⟩=>thn (hb pins s1 σ H1 _ I1 q1) fun u s2 ⟨y,H2,I2,r2,q2⟩ =>
  thn (ho pins s2 σ H2 x y v u _ I2 r1 r2 q2) fun c s3 ⟨z,H3,I3,r3,k,e,q3⟩=>?_) hm
 subst e
 cases r3
 exact wpAny_truthy_bool ⟨H3,I3,q3⟩
def tChain (r r':R2) (ta tb tc:TE):TE:=fun σ H Q=>ta σ H fun x H1=>tb σ H1 fun y H2=>r x y H2 fun z H3=>∃k,z=.bl k ∧
 (if k=true then tc σ H3 fun w' H4=>r' y w' H4 Q else Q (.bl false) H3)
theorem pt_chain {op op':CmpOp} {r r':R2} (ho:OpR X (compareOp op) r) (ho':OpR X (compareOp op') r') (ha:PE X a ta) (hb:PE X b tb) (hc:PE X c tc)
  (hm:lastMarks [op,op'] [b,c]=false:=by with_unfolding_all rfl):PT X (.Compare a [op,op'] [b,c] pos) (tTest (tChain r r' ta tb tc)):=by
 intro pins s σ H Q I h
 refine isTrue_chain (thn (ha pins s σ H _ I h) fun v s1 ⟨x,H1,I1,r1,q1⟩=>test_link (thn (hb pins s1 σ H1 _ I1 q1) fun u s2 ⟨y,H2,I2,r2,q2⟩ =>
  thn (ho pins s2 σ H2 x y v u _ I2 r1 r2 q2) fun d s3 ⟨z,H3,I3,r3,k,e,q3⟩=>?_)) hm
 subst e
 cases r3
 refine wpAny_truthy_bool ?_
 cases k with
 | false =>
  obtain ⟨k',e',q'⟩:=q3
  cases e'
  exact ite_ff ⟨H3,I3,q'⟩
 | true =>
  refine ite_tt (test_last (thn (hc pins s3 σ H3 _ I3 q3) fun w' s4 ⟨z',H4,I4,r4,q4⟩=>thn (ho' pins s4 σ H4 y z' u w' _ I4 r2 r4 q4) fun d' s5 ⟨z2,H5,I5,r5,k2,e2,q5⟩=>?_))
  subst e2
  cases r5
  exact wpAny_truthy_bool ⟨H5,I5,q5⟩
theorem line63:(sizeLine:Nat) < 2^63:=by rw [sizeLine_eq];decide
theorem vals1 {x:V} {us:List Value} (r:Vals [x] us):∃u,us=[u]∧RelV x u:=by
 cases r with
 | cons r1 r2=>cases r2;exact ⟨_,rfl,r1⟩
theorem vals2 {x y:V} {us:List Value} (r:Vals [x,y] us):∃u w',us=[u,w']∧RelV x u∧RelV y w':=by
 cases r with
 | cons r1 r2 =>
  cases r2 with
  | cons r3 r4=>cases r4;exact ⟨_,_,rfl,r1,r3⟩
end
end L2
namespace L2
open PySem PySem.Spec PyProof.Rows
structure ObjM (h:Heap) (x dx C:Addr) (mA:Str→Option Value):Prop where
 obj:h.get? x=some (PySem.W.instObj C dx)
 ns:h.Ns1 dx mA
 ne:dx≠x
theorem lookIn_ns {h:Heap} {dx:Addr} {mA:Str→Option Value} (n:h.Ns1 dx mA):∃od,h.get? dx=some od∧∀name,PySem.W.lookIn name od=some (mA name):=by
 obtain ⟨o,es,ep,ho,hd,hk,_,hm⟩:=n
 refine ⟨o,ho,fun name=>?_⟩
 have e:=hm name
 unfold nsFind findBy at e
 rw [←Array.find?_toList] at e
 unfold PySem.W.lookIn
 rw [hd]
 dsimp only
 split
 ·rename_i y q
  rw [q] at e
  exact congrArg some e
 ·rename_i q
  rw [q] at e
  have a:es.toList.any (·.refKey)=false:=by
   rw [List.any_eq_false]
   intro y hy
   obtain ⟨z,t,hkey⟩:=hk y (Array.mem_toList_iff.mp hy)
   simp [DictEntry.refKey,hkey]
  have a':¬ es.toList.any (·.refKey)=true:=by rw [a];exact Bool.false_ne_true
  rw [if_neg a']
  exact congrArg some e
theorem ObjM.look {h:Heap} {x dx C:Addr} {mA:Str→Option Value} (I:ObjM h x dx C mA):∃od,PySem.W.InstAt h x (PySem.W.instObj C dx) C (some od)∧∀name,PySem.W.lookIn name od=some (mA name) :=
 let ⟨od,ho,hl⟩:=lookIn_ns I.ns
 ⟨od,⟨I.obj,rfl,rfl,ho⟩,hl⟩
section
variable {prog:Program} {w:World} {A:Around} {E:Value→Shared→Prop} {s:Shared} {K:PySem.W.Frag} {x dx C f:Addr} {mA:Str→Option Value} {name:Str} {v:Value}
theorem get_map {expr:Bool} {Q:Value→Shared→Prop} (X:K.In s.heap) (I:ObjM s.heap x dx C mA) (hg:PySem.W.plainGet K C name=true) (hh:PySem.W.hasDictIn K C=true)
  (ha:PySem.W.findIn K (.ref C) name=some none) (hv:mA name=some v) (hv':PySem.W.handedIn v=true) (h:Q v { s with toks:=s.toks+1 }) :
  wpAny (model prog w) A (getAttr (.ref x) name expr) Q E s:=by
 obtain ⟨od,J,hl⟩:=I.look
 exact PySem.W.get_value X J (PySem.W.plainGet_of hg).1 (PySem.W.findObj_own hh ha rfl (by rw [hl,hv])) hv' h
theorem set_map {ns:List Str} {Q:Unit→Shared→Prop} (X:K.In s.heap) (I:ObjM s.heap x dx C mA)
  (hs:PySem.W.findIn K (.ref C) "__setattr__"=some (some (.builtin "object.__setattr__"))) (hp:PySem.W.plainOver K C=true) (ht:PySem.W.takerIn K C name=some none) (hh:PySem.W.hasDictIn K C=true)
  (hw:PySem.Within mA ns) (hsz:ns.length≤sizeLine)
  (h:∀h',ObjM h' x dx C (fun y=>if y=name then some v else mA y)→Heap.SameBut dx s.heap h'→Q () { s with heap:=h',toks:=s.toks+2 }) :
  wpAny (model prog w) A (setAttr (.ref x) name v) Q E s:=by
 obtain ⟨od,J,hl⟩:=I.look
 refine PySem.W.set_plain X J hs (PySem.W.osa_open (s:={ s with toks:=s.toks+1 }) (r:=none) X J hp ht fun b=>?_)
 obtain ⟨cd,hc,hd'⟩:=PySem.W.any_some hh
 have hx:s.heap.get? x=some ⟨.ref C,some dx,.plain,#[]⟩:=I.obj
 refine wpAny_bind (wpAny_pure (wpAny_bind (wpAny_bind (wpAny_loadPart hx (wpAny_bind (PySem.W.Looks.here (s:={ s with toks:=s.toks+1 }) (PySem.W.looks_clsIn X hc) ?_))))))
 rw [hd']
 refine wpAny_pure (a:=some dx) (wpAny_bind (wpAny_pure (wpAny_bind ?_)))
 refine wpAny_nsSet1 (s:={ s with toks:=s.toks+1 }) I.ns fun h' hn2 hs2=>?_
 obtain ⟨oD,esD,epD,hoD,hdD,hcD⟩:=hn2.count (PySem.Within.cons name v hw)
 refine wpAny_bind (wpAny_lookBehind hoD (by rw [hdD];exact pastItsLine_dict (Nat.le_trans hcD (by rw [List.length_cons];omega))) ?_)
 exact wpAny_pure (h _ ⟨(hs2.2 _ (Ne.symm I.ne)).trans I.obj,hn2,I.ne⟩ hs2)
theorem make_map {R:Result→Shared→Prop} {vs:List Value} {kw:List (Str×Value)} (X:K.In s.heap) (hm:PySem.W.makesIn K C=true)
  (hi:PySem.W.findIn K (.ref C) "__init__"=some (some (.ref f))) (hf:PySem.W.typeIn K (.ref f)=some (.type "function"))
  (h:codeAny (model prog w) (A.under (.builtin "type.__call__" ⟨.ref C::vs,kw⟩)) (.call (.ref f) ⟨.ref (s.heap.objs.size+1)::vs,kw⟩) (PySem.W.InitBack (s.heap.objs.size+1) R)
   { s with heap:=(s.heap.push PySem.W.emptyDict).push (PySem.W.instObj C s.heap.objs.size) }) :
  codeAny (model prog w) A (.call (.ref C) ⟨vs,kw⟩) R s:=by
 obtain ⟨hh,g,d,t,os⟩:=s
 exact PySem.W.make_core (PySem.W.makes_of X hm) (PySem.W.looks_findIn X hi) (fun self=>PySem.W.bind_fn X self hf) (.inl rfl) h
end
def putF (f:Str) (v:V):List (Str×V)→List (Str×V)
 | []=>[(f,v)]
 | (g,x)::r=>if g=f then (g,v)::r else (g,x)::putF f v r
theorem lookup_putF (f g:Str) (v:V):∀fs:List (Str×V),(putF f v fs).lookup g=if g=f then some v else fs.lookup g
 | []=>by
  show List.lookup g [(f,v)]=_
  by_cases h:g=f
  ·have hb:(g==f)=true:=beq_iff_eq.mpr h
   simp only [List.lookup,hb,if_pos h]
  ·have hb:(g==f)=false:=beq_eq_false_iff_ne.mpr h
   simp only [List.lookup,hb,if_neg h]
 | (k,x)::r=>by
  have ih:=lookup_putF f g v r
  rw [show putF f v ((k,x)::r)=(if k=f then (k,v)::r else (k,x)::putF f v r) from rfl]
  by_cases hk:k=f
  ·rw [if_pos hk]
   by_cases h:g=k
   ·have hb:(g==k)=true:=beq_iff_eq.mpr h
    simp only [List.lookup,hb,if_pos (h.trans hk)]
   ·have hb:(g==k)=false:=beq_eq_false_iff_ne.mpr h
    simp only [List.lookup,hb,if_neg (fun e:g=f=>h (e.trans hk.symm))]
  ·rw [if_neg hk]
   by_cases h:g=k
   ·have hb:(g==k)=true:=beq_iff_eq.mpr h
    simp only [List.lookup,hb,if_neg (fun e:g=f=>hk (h.symm.trans e))]
   ·have hb:(g==k)=false:=beq_eq_false_iff_ne.mpr h
    simp only [List.lookup,hb]
    exact ih
theorem keys_putF (f:Str) (v:V):∀fs:List (Str×V),f∈(putF f v fs).map (·.1)∧∀g,g∈fs.map (·.1)→g∈(putF f v fs).map (·.1)
 | []=>⟨by simp [putF],fun g h=>by simp at h⟩
 | (k,x)::r=>by
  obtain ⟨i1,i2⟩:=keys_putF f v r
  rw [show putF f v ((k,x)::r)=(if k=f then (k,v)::r else (k,x)::putF f v r) from rfl]
  by_cases hk:k=f
  ·rw [if_pos hk]
   subst hk
   exact ⟨by simp,fun g h=>by simpa using h⟩
  ·rw [if_neg hk]
   refine ⟨?_,fun g h=>?_⟩
   ·rw [List.map_cons]
    exact List.mem_cons_of_mem _ i1
   ·rw [List.map_cons] at h ⊢
    rcases List.mem_cons.mp h with e | e
    ·exact List.mem_cons.mpr (.inl e)
    ·exact List.mem_cons_of_mem _ (i2 g e)
theorem length_putF (f:Str) (v:V):∀fs:List (Str×V),(putF f v fs).length≤fs.length+1
 | []=>by simp [putF]
 | (k,x)::r=>by
  have ih:=length_putF f v r
  rw [show putF f v ((k,x)::r)=(if k=f then (k,v)::r else (k,x)::putF f v r) from rfl]
  by_cases hk:k=f
  ·rw [if_pos hk,List.length_cons,List.length_cons];omega
  ·rw [if_neg hk,List.length_cons,List.length_cons];omega
theorem RelO.some_of {v:V} {o:Option Value} (r:RelO (some v) o):∃u,o=some u∧RelV v u:=by
 cases o with
 | none=>exact (show False from r).elim
 | some u=>exact ⟨u,rfl,r⟩
theorem handed_of {v:V} {u:Value} (r:RelV v u):PySem.W.handedIn u=true:=by
 cases v with
 | non=>cases (show u=Value.none from r);rfl
 | bl b=>cases (show u=Value.bool b from r);rfl
 | int i=>obtain ⟨t,e⟩:=(show ∃t,u=Value.int i t from r);cases e;rfl
 | str x=>obtain ⟨t,e⟩:=(show ∃t,u=Value.str x t from r);cases e;rfl
 | byt b=>obtain ⟨t,e⟩:=(show ∃t,u=Value.bytes b t from r);cases e;rfl
 | flt b=>obtain ⟨t,e⟩:=(show ∃t,u=Value.float b t from r);cases e;rfl
 | ref a=>cases (show u=Value.ref a from r);rfl
 | ty n=>cases (show u=Value.type n from r);rfl
section
variable {P:Program} {w:World} {H H':Hp} {h h':Heap} {a C dx:Addr} {fs fs':List (Str×V)}
theorem ins_get (hok:HOk P w H h) (e:H a=some (.ins C dx fs)):∃mA,ObjM h a dx C mA∧(∀f,RelO (fs.lookup f) (mA f))∧PySem.Within mA (fs.map (·.1))∧fs.length≤1000∧H dx=some (.own a):=by
 obtain ⟨d,z,ne,ob,mA,n,r,q⟩:=(show ObjOk P w H h a (.ins C dx fs) from hok a _ e)
 exact ⟨mA,⟨ob,n,ne⟩,r,q,z,d⟩
end
structure Cls (K:PySem.W.Frag) (C:Addr):Prop where
 pg:PySem.W.plainGet K C Str.empty=true
 hd:PySem.W.hasDictIn K C=true
 po:PySem.W.plainOver K C=true
 sa:PySem.W.findIn K (.ref C) "__setattr__"=some (some (.builtin "object.__setattr__"))
theorem Cls.get {K:PySem.W.Frag} {C:Addr} (c:Cls K C) (f:Str):PySem.W.plainGet K C f=true:=c.pg
def NoAttr (K:PySem.W.Frag) (C:Addr) (f:Str):Prop:=PySem.W.findIn K (.ref C) f=some none
theorem NoAttr.taker {K:PySem.W.Frag} {C:Addr} {f:Str} (n:NoAttr K C f):PySem.W.takerIn K C f=some none:=by
 unfold PySem.W.takerIn
 rw [show PySem.W.findIn K (.ref C) f=some none from n]
 rfl
section
variable {X:Cx} {pins:List (Addr×Obj)} {σ:St} {H:Hp} {s:Shared} {a C dx:Addr} {fs:List (Str×V)} {f:Str} {v:V} {A:Around} {E:Value→Shared→Prop}
theorem getattr_ok {b:Bool} {Q:Value→Shared→Prop} (I:Inv X pins σ H s) (e:H a=some (.ins C dx fs)) (c:Cls X.K C) (n:NoAttr X.K C f) (l:fs.lookup f=some v)
  (h:∀u s',Inv X pins σ H s'→RelV v u→Q u s'):wpAny (model X.prog X.w) A (getAttr (.ref a) f b) Q E s:=by
 obtain ⟨mA,O,r,_,_,_⟩:=ins_get I.hok e
 obtain ⟨u,hu,ru⟩:=RelO.some_of (v:=v) (o:=mA f) (by rw [←l];exact r f)
 exact get_map I.kIn O (c.get f) c.hd n hu (handed_of ru) (h u _ (I.tok _) ru)
theorem setattr_ok {y:V} {u:Value} {Q:Unit→Shared→Prop} (I:Inv X pins σ H s) (e:H a=some (.ins C dx fs)) (c:Cls X.K C) (n:NoAttr X.K C f) (hl:fs.length < 1000) (ry:RelV y u)
  (h:∀s',Inv X pins σ (upd H a (.ins C dx (putF f y fs))) s'→Q () s'):wpAny (model X.prog X.w) A (setAttr (.ref a) f u) Q E s:=by
 obtain ⟨mA,O,r,wi,_,ho⟩:=ins_get I.hok e
 have hz:(fs.map (·.1)).length≤sizeLine:=by rw [List.length_map,sizeLine_eq];omega
 refine set_map I.kIn O c.sa c.po n.taker c.hd wi hz fun h' O' sb=>h _ ?_
 have hd:∃o,h'.get? dx=some o:=let ⟨o,_,_,e',_⟩:=O'.ns;⟨o,e'⟩
 refine I.write (x:=a) (e:=dx) (by rw [e];exact True.intro) (.inr ho) (fun b q hb z=>(sb.2 b hb).trans z) hd ?_
 refine ⟨by rw [upd_ne O.ne];exact ho,?_,O.ne,O'.obj,_,O'.ns,fun g=>?_,fun g hg=>?_⟩
 ·have:=length_putF f y fs;omega
 ·show RelO ((putF f y fs).lookup g) (if g=f then some u else mA g)
  rw [lookup_putF]
  by_cases q:g=f
  ·rw [if_pos q,if_pos q];exact ry
  ·rw [if_neg q,if_neg q];exact r g
 ·by_cases q:g=f
  ·rw [q];exact (keys_putF f y fs).1
  ·refine (keys_putF f y fs).2 g (wi g fun z=>hg ?_)
   show (if g=f then some u else mA g)=none
   rw [if_neg q];exact z
theorem Inv.made (I:Inv X pins σ H s):Inv X pins σ (upd (upd H s.heap.objs.size (.own (s.heap.objs.size+1))) (s.heap.objs.size+1) (.ins C s.heap.objs.size []))
  { s with heap:=(s.heap.push PySem.W.emptyDict).push (PySem.W.instObj C s.heap.objs.size) }:=by
 have e1:(s.heap.push PySem.W.emptyDict).get? s.heap.objs.size=some PySem.W.emptyDict:=Heap.get?_push_size s.heap rfl
 have e2:((s.heap.push PySem.W.emptyDict).push (PySem.W.instObj C s.heap.objs.size)).get? (s.heap.objs.size+1)=some (PySem.W.instObj C s.heap.objs.size):=by
  have:=Heap.get?_push_size (s.heap.push PySem.W.emptyDict) (o:=PySem.W.instObj C s.heap.objs.size) rfl
  rwa [Heap.size_push] at this
 have e3:(s.heap.push PySem.W.emptyDict).Ns s.heap.objs.size (fun _=>none):=⟨PySem.W.emptyDict,#[],_,e1,rfl,(fun e he=>absurd he (by simp)),fun _=>rfl⟩
 have I1:=I.laid (a:=s.heap.objs.size) (o:=.own (s.heap.objs.size+1)) (h':=s.heap.push PySem.W.emptyDict) (t':=s.toks) (fun b u q=>Heap.get?_push_of_some _ q) (Nat.le_refl _) ⟨_,e1⟩
 refine I1.laid (a:=s.heap.objs.size+1) (o:=.ins C s.heap.objs.size []) (t':=s.toks) (fun b u q=>Heap.get?_push_of_some _ q) (Nat.le_of_eq (Heap.size_push _ _)) ?_
 have ne:s.heap.objs.size≠s.heap.objs.size+1:=Nat.ne_of_lt (Nat.lt_succ_self _)
 refine ⟨by rw [upd_ne ne,upd_same],Nat.zero_le _,ne,e2,fun _=>none,(Heap.Ns1.of_empty e3).at fun o q=>Heap.get?_push_of_some _ q,fun _=>True.intro,fun y hy=>absurd rfl hy⟩
theorem attr_of {prog:Program} {w:World} {env:Env} {e:Expr} {f:Str} {pos:Pos} {s:Shared} {Q:Value→Shared→Prop} (hb:attributeBase e f env (eval e env)=eval e env)
  (h:wpAny (model prog w) A (eval e env) (fun o s₁=>wpAny (model prog w) A (getAttr o f true) Q E s₁) E s):wpAny (model prog w) A (eval (.Attribute e f pos) env) Q E s :=
 Attribute_any_ h (by rw [arm_eval_Attribute,hb])
end
def tFld (K:PySem.W.Frag) (ta:TE) (f:Str):TE:=fun σ H Q=>ta σ H fun x H1=>∃a C dx fs v,x=.ref a∧H1 a=some (.ins C dx fs)∧Cls K C∧NoAttr K C f∧fs.lookup f=some v∧Q v H1
def sFld (K:PySem.W.Frag) (ta tv:TE) (f:Str):TS:=fun D σ H=>tv σ H fun y H1=>ta σ H1 fun x H2=>∃a C dx fs,x=.ref a∧H2 a=some (.ins C dx fs)∧Cls K C∧NoAttr K C f∧fs.length < 1000 ∧
 D.nx σ (upd H2 a (.ins C dx (putF f y fs)))
def InOp (X:Cx) (op:Operator) (rd:V→V→Hp→VK→Prop):Prop :=
 ∀(pins:List (Addr×Obj)) (s:Shared) (σ:St) (H:Hp) (x y:V) (u v:Value) (Q:VK),Inv X pins σ H s→RelV x u→RelV y v→rd x y H Q→wpAny (model X.prog X.w) X.A (inplaceOp op u v) (EP X pins σ Q) X.xe s
def sFldAug (K:PySem.W.Frag) (ta tv:TE) (rd:V→V→Hp→VK→Prop) (f:Str):TS:=fun D σ H=>ta σ H fun x H1=>∃a C dx fs v,x=.ref a∧H1 a=some (.ins C dx fs)∧Cls K C∧NoAttr K C f∧fs.lookup f=some v ∧
 tv σ H1 fun y H2=>rd v y H2 fun z H3=>∃dx' fs',H3 a=some (.ins C dx' fs')∧fs'.length < 1000∧D.nx σ (upd H3 a (.ins C dx' (putF f z fs')))
section
variable {X:Cx} {o e value:Expr} {f:Str} {pos pos' tpos:Pos} {ta tv:TE}
theorem pe_fld (he:PE X e ta) (hb:attributeBase e f X.env (eval e X.env)=eval e X.env):PE X (.Attribute e f pos) (tFld X.K ta f):=by
 intro pins s σ H Q I h
 refine attr_of hb (thn (he pins s σ H _ I h) fun u s1 ⟨x,H1,I1,rx,a,C,dx,fs,v,ex,ea,c,n,l,q⟩=>?_)
 subst ex
 obtain rfl:u=Value.ref a:=rx
 exact getattr_ok I1 ea c n l fun u' s2 I2 ru=>⟨v,H1,I2,ru,q⟩
theorem ps_fld (ha:PE X o ta) (hv:PE X value tv) (hs:swapsWith value (some (.Attribute o f pos')) pos.line X.env=pure false):PS X (.Assign [.Attribute o f pos'] value pos) (sFld X.K ta tv f):=by
 intro pins s σ H D I h
 refine plainObj_wpAny_Assign_Attribute (thn (hv pins s σ H _ I h) fun u s1 ⟨y,H1,I1,ry,q⟩=>thn (ha pins s1 σ H1 _ I1 q) fun ov s2 ⟨x,H2,I2,rx,a,C,dx,fs,ex,ea,c,n,l,q2⟩=>?_) hs
 subst ex
 obtain rfl:ov=Value.ref a:=rx
 exact setattr_ok I2 ea c n l ry fun s3 I3=>⟨σ,_,I3,q2⟩
theorem ps_fldaug {op:Operator} {rd:V→V→Hp→VK→Prop} (ha:PE X o ta) (hv:PE X value tv) (hop:InOp X op rd):PS X (.AugAssign (.Attribute o f tpos) op value pos) (sFldAug X.K ta tv rd f):=by
 intro pins s σ H D I h
 refine wpAny_AugAssign_AttributeAny (thn (ha pins s σ H _ I h) fun ov s1 ⟨x,H1,I1,rx,a,C,dx,fs,v,ex,ea,c,n,l,q⟩=>?_)
 subst ex
 obtain rfl:ov=Value.ref a:=rx
 refine getattr_ok I1 ea c n l fun u s2 I2 ru=>thn (hv pins s2 σ H1 _ I2 q) fun w3 s3 ⟨y,H2,I3,ry,q3⟩=>thn (hop pins s3 σ H2 v y u w3 _ I3 ru ry q3) fun w4 s4 ⟨z,H3,I4,rz,dx',fs',ea',l',q4⟩=>?_
 exact setattr_ok I4 ea' c n l' rz fun s5 I5=>⟨σ,_,I5,q4⟩
def rAdd:V→V→Hp→VK→Prop:=fun x y H Q=>∃i j,x=.int i∧y=.int j∧Q (.int (i+j)) H
def rSub:V→V→Hp→VK→Prop:=fun x y H Q=>∃i j,x=.int i∧y=.int j∧Q (.int (i - j)) H
theorem in_add:InOp X .Add rAdd:=by
 rintro pins s σ H x y u v Q I rx ry ⟨i,j,rfl,rfl,q⟩
 obtain ⟨t,rfl⟩:=(show ∃t,u=Value.int i t from rx)
 obtain ⟨t',rfl⟩:=(show ∃t',v=Value.int j t' from ry)
 exact PyProof.Rows.iadd_int ⟨.int (i+j),H,I.tok _,⟨_,rfl⟩,q⟩
theorem in_sub:InOp X .Sub rSub:=by
 rintro pins s σ H x y u v Q I rx ry ⟨i,j,rfl,rfl,q⟩
 obtain ⟨t,rfl⟩:=(show ∃t,u=Value.int i t from rx)
 obtain ⟨t',rfl⟩:=(show ∃t',v=Value.int j t' from ry)
 exact PyProof.Rows.isub_int ⟨.int (i - j),H,I.tok _,⟨_,rfl⟩,q⟩
end
section
variable {X:Cx} {pins:List (Addr×Obj)} {σ:St} {H:Hp} {s:Shared} {A:Around} {E:Value→Shared→Prop} {Q:Value→Shared→Prop} {c:Value} {b:Bool}
end
end L2
namespace L2
open PySem PySem.Spec PyProof.Rows
structure Room (k:Nat) (A:Around):Prop where
 hd:A.handled=none
 dp:A.depth+3 * k+5 < recursionLimit
 un:A.units+16 * k+200 < cLine
theorem Room.mono {j k:Nat} {A:Around} (r:Room k A) (h:j≤k):Room j A:=⟨r.hd,by have:=r.dp;omega,by have:=r.un;omega⟩
theorem Room.deeper {k:Nat} {A:Around} (r:Room (k+1) A) (env:Env):Room k (A.deeper env) :=
 ⟨r.hd,by have:=r.dp;show A.depth+1+3 * k+5 < _;omega,by have:=r.un;show A.units+3+16 * k+200 < _;omega⟩
theorem Room.in1 {k:Nat} {A:Around} (r:Room (k+1) A):Room k A.in1 :=
 ⟨r.hd,by have:=r.dp;show A.depth+3 * k+5 < _;omega,by have:=r.un;show A.units+1+16 * k+200 < _;omega⟩
theorem make_depth {A:Around} {C:Addr} {us:List Value} {kw:List (Str×Value)}:(A.under (.builtin "type.__call__" ⟨.ref C::us,kw⟩)).depth=A.depth+1:=by
 first | rfl | simp [Around.under,Code.weight,Code.isCreation,Code.isGuard,Code.isCaller,Code.frames,Code.isFrame,guardIds]
theorem make_units {A:Around} {C:Addr} {us:List Value} {kw:List (Str×Value)}:(A.under (.builtin "type.__call__" ⟨.ref C::us,kw⟩)).units=A.units+1:=by
 first | rfl | simp [Around.under,Code.cUnits,Code.frames,Code.isFrame]
theorem Room.make {k:Nat} {A:Around} (r:Room (k+1) A) (C:Addr) (us:List Value) (kw:List (Str×Value)):Room k (A.under (.builtin "type.__call__" ⟨.ref C::us,kw⟩)) :=
 ⟨r.hd,by have:=r.dp;rw [make_depth];omega,by have:=r.un;rw [make_units];omega⟩
theorem Room.depth {k:Nat} {A:Around} (r:Room k A):A.depth < recursionLimit:=by have:=r.dp;omega
theorem Room.units {k:Nat} {A:Around} (r:Room k A):A.units+64 < cLine:=by have:=r.un;omega
def tNil:TA:=fun _ H Q=>Q [] H
def tCons (ta:TE) (tr:TA):TA:=fun σ H Q=>ta σ H fun x H1=>tr σ H1 fun xs H2=>Q (x::xs) H2
section
variable {X:Cx} {e:Expr} {es:List Expr} {te:TE} {t:TA} {pos:Pos}
theorem pa_nil:PA X [] tNil:=fun _ _ _ _ H Q I h=>Calls.spliced_nil ⟨[],H,I,.nil,h⟩
theorem pa_cons (ha:PE X e te) (hr:PA X es t) (hs:starEach (e::es) X.env=(false,eval e X.env)::starEach es X.env:=by rfl):PA X (e::es) (tCons te t):=by
 intro pos pins s σ H Q I h
 rw [hs]
 show wpAny _ _ (spliced ((false,eval e X.env)::backTo pos (starEach es X.env))) _ _ s
 refine Calls.spliced_cons (thn (ha pins s σ H _ I h) fun u s1 ⟨x,H1,I1,r1,q1⟩=>?_)
 exact thn (hr pos pins s1 σ H1 _ I1 q1) fun us s2 ⟨xs,H2,I2,r2,q2⟩=>⟨x::xs,H2,I2,.cons r1 r2,q2⟩
def tTup (t:TA):TE:=fun σ H Q=>t σ H fun xs H1=>xs.length≤sizeLine∧∀p,H1 p=none→Q (.ref p) (upd H1 p (.tup xs))
def tLst (t:TA):TE:=fun σ H Q=>t σ H fun xs H1=>xs.length≤sizeLine∧∀p,H1 p=none→Q (.ref p) (upd H1 p (.lst xs))
theorem pe_tup {x1} (h:PA X es t):PE X (.Tuple es x1 pos) (tTup t):=by
 intro pins s σ H Q I hq
 refine wpAny_Tuple_spliced (thn (h pos pins s σ H _ I hq) fun us s1 ⟨xs,H1,I1,r,z,q⟩=>⟨by rw [←r.length];exact z,?_⟩)
 have hf:H1 s1.heap.objs.size=none:=I1.hok.fresh (Nat.le_refl _)
 refine ⟨.ref s1.heap.objs.size,upd H1 s1.heap.objs.size (.tup xs),I1.laid (t':=s1.toks) (fun b u e=>Heap.get?_push_of_some _ e) (Nat.le_refl _) ?_,rfl,q _ hf⟩
 exact ⟨z,us,r,⟨_,Heap.get?_push_size _ rfl,rfl,_,rfl⟩⟩
theorem pe_lst (h:PA X es t):PE X (.List es pos) (tLst t):=by
 intro pins s σ H Q I hq
 refine wpAny_List_spliced (thn (h pos pins s σ H _ I hq) fun us s1 ⟨xs,H1,I1,r,z,q⟩=>⟨by rw [←r.length];exact z,?_⟩)
 have hf:H1 s1.heap.objs.size=none:=I1.hok.fresh (Nat.le_refl _)
 refine ⟨.ref s1.heap.objs.size,upd H1 s1.heap.objs.size (.lst xs),I1.laid (t':=s1.toks) (fun b u e=>Heap.get?_push_of_some _ e) (Nat.le_refl _) ?_,rfl,q _ hf⟩
 exact ⟨z,us,0,r,Heap.get?_push_size _ rfl⟩
end
abbrev Sp:=List V→Hp→VK→XK→Prop
abbrev CXT:=List Env→Hp→Shared→XK→Value→Shared→Prop
structure Env0 (P:Program) (w:World) (K:PySem.W.Frag) (mg:Str→Option Value) (base:Heap) (A:Around) (outer:List Env) (s:Shared) (H:Hp):Prop where
 frames:A.frames=some outer
 mod:Mod K mg base
 bs:∀b o,base.get? b=some o→s.heap.get? b=some o∧H b=none
 bsz:base.objs.size≤s.heap.objs.size
 funs:s.heap.FunFrames base outer
 frf:∀b∈frs outer,H b=none
 hok:HOk P w H s.heap
 bare:AllBare s.gens
def CE (outer:List Env) (P:Program) (w:World) (H:Hp) (s:Shared) (Q:VK) (u:Value) (s':Shared):Prop :=
 ∃v H',s'.os=s.os∧AllBare s'.gens∧Un (frs outer) [] H H' s.heap s'.heap∧HOk P w H' s'.heap∧RelV v u∧Q v H'
def CR (CX:CXT) (outer:List Env) (P:Program) (w:World) (H:Hp) (s:Shared) (Q:VK) (E:XK) (r:Result) (s':Shared):Prop :=
 match r with
 | .ok (.ret u)=>CE outer P w H s Q u s'
 | .ok _=>False
 | .error e=>CX outer H s E e s'
structure FnOk (P:Program) (w:World) (K:PySem.W.Frag) (mg:Str→Option Value) (base:Heap) (CX:CXT) (k:Nat) (f:Addr) (fd:FuncData) (ps:List Str) (sp:Sp):Prop where
 len:∀vs H Q E,sp vs H Q E→vs.length=ps.length
 run:∀(A:Around) (outer:List Env) (s:Shared) (H:Hp) (args:Args) (us:List Value) (vs:List V) (Q:VK) (E:XK),Room k A→Env0 P w K mg base A outer s H→BindsTo s fd args (ps.zip us)→Vals vs us→sp vs H Q E →
  codeAny (model P w) A (.call (.ref f) args) (CR CX outer P w H s Q E) s
theorem Env0.make {P:Program} {w:World} {K:PySem.W.Frag} {mg:Str→Option Value} {base:Heap} {A:Around} {outer:List Env} {s:Shared} {H:Hp} (e:Env0 P w K mg base A outer s H) (C:Addr) (us:List Value) (kw:List (Str×Value)) :
  Env0 P w K mg base (A.under (.builtin "type.__call__" ⟨.ref C::us,kw⟩)) outer s H:=⟨by first | exact e.frames | (simpa [Around.under,Code.envs,Code.isFrame,pushEnvs] using e.frames),e.mod,e.bs,e.bsz,e.funs,e.frf,e.hok,e.bare⟩
section
variable {X:Cx} {pins:List (Addr×Obj)} {σ:St} {H:Hp} {s s':Shared}
theorem Inv.env0 (I:Inv X pins σ H s):Env0 X.prog X.w X.K X.mg X.base X.A X.stack s H :=
 ⟨I.ok.frames,I.ok.mod,I.bs,Nat.le_trans I.ok.bsz I.sz,I.stack,I.stkFree,I.hok,I.bare⟩
theorem Inv.after {Q:VK} {u:Value} (I:Inv X pins σ H s) (h:CE X.stack X.prog X.w H s Q u s'):EP X pins σ Q u s':=by
 obtain ⟨v,H',os,bare,un,hok,r,q⟩:=h
 obtain ⟨hh,g,d,t,os'⟩:=s'
 obtain rfl:os'=s.os:=os
 exact ⟨v,H',I.call (h':=hh) (g':=g) (d':=d) (t':=t) (ch:=[]) un hok bare (fun b z=>absurd z (by simp)),r,q⟩
end
def tCall (sp:Sp) (dvs:List V) (E:XK) (t:TA):TE:=fun σ H Q=>t σ H fun vs H1=>sp (vs++dvs) H1 Q E
def tMake (C:Addr) (sp:Sp) (dvs:List V) (E:XK) (t:TA):TE:=fun σ H Q=>t σ H fun vs H1=>∀x dx,H1 x=none→H1 dx=none→dx≠x →
 sp (.ref x::(vs++dvs)) (upd (upd H1 dx (.own x)) x (.ins C dx [])) (fun v H2=>v=.non∧Q (.ref x) H2) E
def Binds (K:PySem.W.Frag) (fd:FuncData) (ps:List Str) (ds:List Value):Prop :=
 ∀(s:Shared) (us:List Value),K.In s.heap→(us++ds).length=ps.length→BindsTo s fd ⟨us,[]⟩ (ps.zip (us++ds))
theorem Binds.all {K:PySem.W.Frag} {fd:FuncData} {ps:List Str} (h:∀us:List Value,us.length=ps.length→bindArgs fd ⟨us,[]⟩=pure (ps.zip us)):Binds K fd ps []:=fun s us _ hl=>by
 rw [List.append_nil] at hl ⊢
 exact .of_eq (h us hl)
def Passes (CX:CXT) (X:Cx) (E:XK):Prop:=∀(pins:List (Addr×Obj)) (σ:St) (H:Hp) (s:Shared) (e:Value) (s':Shared),Inv X pins σ H s→CX X.stack H s E e s'→X.xe e s'
section
variable {X:Cx} {CX:CXT} {k:Nat} {f C:Addr} {fd:FuncData} {ps:List Str} {sp:Sp} {dvs:List V} {ds:List Value} {E:XK} {x m:Str} {p pos apos:Pos} {e o:Expr} {es:List Expr} {ta:TE} {t:TA}
theorem run_fn {pins:List (Addr×Obj)} {σ:St} {H:Hp} {s:Shared} {Q:VK} {us:List Value} {vs:List V} (F:FnOk X.prog X.w X.K X.mg X.base CX k f fd ps sp) (hr:Room k X.A) (hb:Binds X.K fd ps ds) (hd:Vals dvs ds) (hx:Passes CX X E)
  (I:Inv X pins σ H s) (r:Vals vs us) (h:sp (vs++dvs) H Q E):wpAny (model X.prog X.w) X.A (call (.ref f) us) (EP X pins σ Q) X.xe s:=by
 have r2:Vals (vs++dvs) (us++ds):=r.append hd
 have hl:(us++ds).length=ps.length:=by rw [←r2.length];exact F.len _ _ _ _ h
 refine wpAny_call (codeAny_mono (F.run X.A X.stack s H ⟨us,[]⟩ (us++ds) (vs++dvs) Q E hr I.env0 (hb s us I.kIn hl) r2 h) fun r s' hq=>?_)
 cases r with
 | error e=>exact hx pins σ H s e s' I hq
 | ok fl =>
  cases fl with
  | ret u=>exact I.after hq
  | next=>exact False.elim hq
  | brk=>exact False.elim hq
  | cont=>exact False.elim hq
theorem pe_call (F:FnOk X.prog X.w X.K X.mg X.base CX k f fd ps sp) (hr:Room k X.A) (hg:Gl X x) (hm:X.mg x=some (.ref f)) (hk:PySem.W.keepIn X.K (.ref f)=true) (hb:Binds X.K fd ps ds) (hd:Vals dvs ds) (hx:Passes CX X E)
  (ha:PA X (e::es) t) (hdb:(x==("__debug__":Str))=false:=by decide) (he:starEach (e::es) X.env=(false,eval e X.env)::starEach es X.env:=by rfl) (hpl:(backTo pos (starEach es X.env)).any (·.1)=false:=by rfl) :
  PE X (.Call (.Name x p) (e::es) [] pos) (tCall sp dvs E t):=by
 intro pins s σ H Q I h
 refine wpAny_Call_Name_kw (ld_glob I hg hm ?_ hdb)
 refine PySem.W.callWith_K (h₀:=X.base) I.ok.mod.kin hk (thn (ha pos pins s σ H _ I h) fun us s1 ⟨vs,H1,I1,r,q⟩=>⟨I1.kIn,?_⟩) he hpl
 exact run_fn F hr hb hd hx I1 r q
structure Mk (K:PySem.W.Frag) (C f:Addr):Prop where
 makes:PySem.W.makesIn K C=true
 init:PySem.W.findIn K (.ref C) "__init__"=some (some (.ref f))
 fn:PySem.W.isFn K (.ref f)=true
 kp:PySem.W.keepIn K (.ref C)=true
theorem run_make {pins:List (Addr×Obj)} {σ:St} {H:Hp} {s:Shared} {Q:VK} {us:List Value} {vs:List V} (M:Mk X.K C f) (F:FnOk X.prog X.w X.K X.mg X.base CX k f fd ps sp) (hr:Room (k+1) X.A) (hb:Binds X.K fd ps ds) (hd:Vals dvs ds)
  (hx:Passes CX X E) (I:Inv X pins σ H s) (r:Vals vs us)
  (h:∀x dx,H x=none→H dx=none→dx≠x→sp (.ref x::(vs++dvs)) (upd (upd H dx (.own x)) x (.ins C dx [])) (fun v H2=>v=.non∧Q (.ref x) H2) E) :
  wpAny (model X.prog X.w) X.A (call (.ref C) us) (EP X pins σ Q) X.xe s:=by
 have hq:=h (s.heap.objs.size+1) s.heap.objs.size (I.hok.fresh (Nat.le_succ _)) (I.hok.fresh (Nat.le_refl _)) (Nat.ne_of_lt (Nat.lt_succ_self _))
 have I2:=Inv.made (C:=C) I
 have r2:Vals (V.ref (s.heap.objs.size+1)::(vs++dvs)) (Value.ref (s.heap.objs.size+1)::(us++ds)):=.cons rfl (r.append hd)
 have hl:(Value.ref (s.heap.objs.size+1)::us++ds).length=ps.length:=by
  have e:=r2.length
  rw [F.len _ _ _ _ hq] at e
  exact e.symm
 refine wpAny_call (make_map (f:=f) I.kIn M.makes M.init (beq_iff_eq.mp M.fn) (codeAny_mono (F.run _ X.stack _ _ ⟨Value.ref (s.heap.objs.size+1)::us,[]⟩ (Value.ref (s.heap.objs.size+1)::(us++ds)) _ _ E (hr.make C us [])
  (I2.env0.make C us []) (hb _ (Value.ref (s.heap.objs.size+1)::us) I2.kIn hl) r2 hq) fun r s' hq'=>?_))
 cases r with
 | error e=>exact hx pins σ _ _ e s' I2 hq'
 | ok fl =>
  cases fl with
  | ret u =>
   obtain ⟨v,H',I3,rv,ev,q3⟩:=I2.after hq'
   subst ev
   exact ⟨rv,⟨V.ref (s.heap.objs.size+1),H',I3,rfl,q3⟩⟩
  | next=>exact False.elim hq'
  | brk=>exact False.elim hq'
  | cont=>exact False.elim hq'
theorem pe_make (M:Mk X.K C f) (F:FnOk X.prog X.w X.K X.mg X.base CX k f fd ps sp) (hr:Room (k+1) X.A) (hg:Gl X x) (hm:X.mg x=some (.ref C)) (hb:Binds X.K fd ps ds) (hd:Vals dvs ds) (hx:Passes CX X E)
  (ha:PA X (e::es) t) (hdb:(x==("__debug__":Str))=false:=by decide) (he:starEach (e::es) X.env=(false,eval e X.env)::starEach es X.env:=by rfl) (hpl:(backTo pos (starEach es X.env)).any (·.1)=false:=by rfl) :
  PE X (.Call (.Name x p) (e::es) [] pos) (tMake C sp dvs E t):=by
 intro pins s σ H Q I h
 refine wpAny_Call_Name_kw (ld_glob I hg hm ?_ hdb)
 refine PySem.W.callWith_K (h₀:=X.base) I.ok.mod.kin M.kp (thn (ha pos pins s σ H _ I h) fun us s1 ⟨vs,H1,I1,r,q⟩=>⟨I1.kIn,?_⟩) he hpl
 exact run_make M F hr hb hd hx I1 r q
theorem pe_make0 (M:Mk X.K C f) (F:FnOk X.prog X.w X.K X.mg X.base CX k f fd ps sp) (hr:Room (k+1) X.A) (hg:Gl X x) (hm:X.mg x=some (.ref C)) (hb:Binds X.K fd ps ds) (hd:Vals dvs ds) (hx:Passes CX X E)
  (hdb:(x==("__debug__":Str))=false:=by decide):PE X (.Call (.Name x p) [] [] pos) (tMake C sp dvs E tNil):=by
 intro pins s σ H Q I h
 refine wpAny_Call_Name_kw (ld_glob I hg hm ?_ hdb)
 exact PySem.W.callWith_K0 I.kIn M.kp (run_make (us:=[]) M F hr hb hd hx I .nil h)
end
def PK (X:Cx) (kws:List Keyword) (t:TA):Prop :=
 ∀(pos:Pos) (pins:List (Addr×Obj)) (s:Shared) (σ:St) (H:Hp) (Q:List V→Hp→Prop),Inv X pins σ H s→t σ H Q→wpAny (model X.prog X.w) X.A (evalAll ((backToKw pos (keywordEach kws X.env)).map (·.2))) (AP X pins σ Q) X.xe s
section
variable {X:Cx} {CX:CXT} {k:Nat} {f C:Addr} {fd:FuncData} {ps ks:List Str} {sp:Sp} {E:XK} {x m:Str} {p pos apos kpos:Pos} {e o:Expr} {es:List Expr} {kws:List Keyword} {te ta:TE} {t tk:TA} {nm:Option Str}
theorem pk_nil:PK X [] tNil:=fun _ _ _ _ H Q I h=>wpAny_evalAll_nil ⟨[],H,I,.nil,h⟩
theorem pk_cons (ha:PE X e te) (hr:PK X kws t):PK X (⟨nm,e,kpos⟩::kws) (tCons te t):=by
 intro pos pins s σ H Q I h
 show wpAny _ _ (evalAll ((do let v ← eval e X.env;standAt pos;pure v)::(backToKw pos (keywordEach kws X.env)).map (·.2))) _ _ s
 refine wpAny_evalAll_cons (wpAny_bind (thn (ha pins s σ H _ I h) fun u s1 ⟨x,H1,I1,r1,q1⟩=>wpAny_bind (wpAny_standAt (wpAny_pure ?_))))
 exact thn (hr pos pins s1 σ H1 _ I1 q1) fun us s2 ⟨xs,H2,I2,r2,q2⟩=>⟨x::xs,H2,I2,.cons r1 r2,q2⟩
variable {g:List Value→List Value→List Value} {gV:List V→List V→List V}
end
structure FnScope (N P:List Str) (sc:Scope):Prop where
 kind:sc.kind=.function
 co:sc.isCoroutine=false
 gen:sc.isGenerator=false
 nd:N.Nodup
 pre:N.take P.length=P
 par:∀x∈P,sc.names.lookup x=some .local∨sc.names.lookup x=some .cell
 nofree:∀y∈sc.names,y.2≠.free
theorem bindL_out {kindOf:Str→Option NameKind} {x:Str}:∀{binds:List (Str×Value)} {m:Str→Option Value},(∀v,(x,v) ∉ binds)→bindL kindOf binds m x=m x
 | [],_,_=>rfl
 | (n,v)::r,m,h=>by
  unfold bindL
  rw [bindL_out fun w hw=>h w (List.mem_cons_of_mem _ hw)]
  split
  ·have:x≠n:=by rintro rfl;exact h v List.mem_cons_self
   simp [this]
  ·rfl
theorem bindC_out {kindOf:Str→Option NameKind} {x:Str}:∀{binds:List (Str×Value)} {m:Str→Option Value},(∀v,(x,v) ∉ binds)→bindC kindOf binds m x=m x
 | [],_,_=>rfl
 | (n,v)::r,m,h=>by
  unfold bindC
  rw [bindC_out fun w hw=>h w (List.mem_cons_of_mem _ hw)]
  split
  ·rfl
  ·have:x≠n:=by rintro rfl;exact h v List.mem_cons_self
   simp [this]
theorem bindL_get {kindOf:Str→Option NameKind} {x:Str} {v:Value}:∀{P:List Str} {vs:List Value} {i:Nat} {m:Str→Option Value},P.Nodup→P[i]?=some x→vs[i]?=some v→kindOf x=some .local →
  bindL kindOf (P.zip vs) m x=some v
 | [],_,_,_,_,h,_,_=>by simp at h
 | _::_,[],_,_,_,_,h,_=>by simp at h
 | p::P,w::vs,0,m,nd,h1,h2,hk=>by
  simp at h1 h2;subst h1;subst h2
  show bindL kindOf ((p,w)::P.zip vs) m p=_
  unfold bindL
  rw [bindL_out fun v hv=>(List.nodup_cons.mp nd).1 (List.of_mem_zip hv).1,if_pos hk]
  simp
 | p::P,w::vs,i+1,m,nd,h1,h2,hk=>by
  show bindL kindOf ((p,w)::P.zip vs) m x=_
  unfold bindL
  exact bindL_get (i:=i) (List.nodup_cons.mp nd).2 (by simpa using h1) (by simpa using h2) hk
theorem bindC_get {kindOf:Str→Option NameKind} {x:Str} {v:Value}:∀{P:List Str} {vs:List Value} {i:Nat} {m:Str→Option Value},P.Nodup→P[i]?=some x→vs[i]?=some v→kindOf x≠some .local →
  bindC kindOf (P.zip vs) m x=some v
 | [],_,_,_,_,h,_,_=>by simp at h
 | _::_,[],_,_,_,_,h,_=>by simp at h
 | p::P,w::vs,0,m,nd,h1,h2,hk=>by
  simp at h1 h2;subst h1;subst h2
  show bindC kindOf ((p,w)::P.zip vs) m p=_
  unfold bindC
  rw [bindC_out fun v hv=>(List.nodup_cons.mp nd).1 (List.of_mem_zip hv).1,if_neg hk]
  simp
 | p::P,w::vs,i+1,m,nd,h1,h2,hk=>by
  show bindC kindOf ((p,w)::P.zip vs) m x=_
  unfold bindC
  exact bindC_get (i:=i) (List.nodup_cons.mp nd).2 (by simpa using h1) (by simpa using h2) hk
def start (N:List Str) (vs:List V):St:=vs.map some++List.replicate (N.length - vs.length) none
def cxOf (CX:CXT) (P:Program) (w:World) (K:PySem.W.Frag) (mg:Str→Option Value) (base:Heap) (N:List Str) (qual:Str) (scope:Scope) (f:Addr) (cd:Value) (A:Around) (outer:List Env) (s:Shared) (H:Hp) (E:XK):Cx where
 prog:=P
 w:=w
 K:=K
 mg:=mg
 base:=base
 A:=A.deeper (envOfC qual scope s.heap.objs.size f cd)
 N:=N
 s_0:=s
 H_0:=H
 env:=envOfC qual scope s.heap.objs.size f cd
 outer:=outer
 stack:=envOfC qual scope s.heap.objs.size f cd::outer
 ex:=[]
 calm:=true
 fn:=fun _=>true
 pn:=[]
 xe:=fun e s'=>wpAny (model P w) (A.deeper (envOfC qual scope s.heap.objs.size f cd)) (leaving (envOfC qual scope s.heap.objs.size f cd) e) (fun _ s''=>CX outer H s E e s'') (fun e' s''=>CX outer H s E e' s'') s'
theorem cell_has {sc:Scope} {n:Nat} {x:Str} (h:sc.names.lookup x=some .cell):∃c,(cellsFrom n sc.names []).lookup x=some c:=by
 have q:=PySem.W.cellsFrom_some sc.names n [] (.inl h)
 exact Option.isSome_iff_exists.mp q
theorem inv_start {CX:CXT} {P:Program} {w:World} {K:PySem.W.Frag} {mg:Str→Option Value} {base:Heap} {N ps:List Str} {qual:Str} {scope:Scope} {f:Addr} {cd:Value} {A:Around} {outer:List Env} {s s1:Shared} {H:Hp} {E:XK} {us:List Value} {vs:List V}
  (S:FnScope N ps scope) (hd:A.handled=none) (e0:Env0 P w K mg base A outer s H) (hl:vs.length=ps.length) (r:Vals vs us)
  (x:InCallC s s.heap.objs.size (bindL (envOfC qual scope s.heap.objs.size f cd).kindOf (ps.zip us) fun _=>none) (cellsFrom (s.heap.objs.size+1) scope.names []) (bindC (envOfC qual scope s.heap.objs.size f cd).kindOf (ps.zip us) fun _=>none) s1) :
  Inv (cxOf CX P w K mg base N qual scope f cd A outer s H E) [] (start N vs) H s1:=by
 have hpl:ps.length≤N.length:=by have:=congrArg List.length S.pre;rw [List.length_take] at this;omega
 obtain ⟨h1,tk,rfl,hk⟩:=x.done
 have noA:∀b:Addr,b ∉ (cxOf CX P w K mg base N qual scope f cd A outer s H E).ex:=fun b z=>absurd (show b∈([]:List Addr) from z) (by simp)
 refine ⟨⟨e0.mod,S.kind,rfl,rfl,Nat.le_refl _,fun y z c h1 h2=>?_,fun y hy=>?_,fun y c _ h=>?_,fun _=>hd,Around.frames_deeper e0.frames,.inr ⟨rfl,rfl⟩,fun b z=>absurd z (noA b),e0.bs,e0.bsz,fun b _ _=>noA b,fun b z=>absurd z (noA b),e0.funs,e0.frf⟩,
  rfl,e0.bare,Un.kept hk,⟨_,x.toInCall.ns,fun i y v h1 h2 h3=>?_⟩,fun y c h=>⟨_,x.cell y c h⟩,e0.hok.fresh (Nat.le_refl _),fun y c h=>?_,fun p hp=>absurd (show p∈([]:List (Addr×Obj)) from hp) (by simp),e0.hok.kept hk,?_⟩
 ·exact name_of_addr x.apart (PySem.mem_of_lookup h1) (PySem.mem_of_lookup h2)
 ·have hy:scope.names.lookup y=some .cell∨scope.names.lookup y=some .free:=hy
  rcases hy with hy | hy
  ·exact cell_has hy
  ·exact absurd rfl (S.nofree _ (PySem.mem_of_lookup hy))
 ·exact Nat.le_of_lt (x.above y c (PySem.mem_of_lookup h))
 ·have hi:i < vs.length:=by
   unfold start at h2
   by_cases hi:i < vs.length
   ·exact hi
   ·rw [List.getElem?_append_right (by simpa using hi)] at h2
    rw [List.getElem?_replicate] at h2
    split at h2 <;> cases h2
  have ha:vs[i]?=some v:=by
   unfold start at h2
   rw [List.getElem?_append_left (by simpa using hi),List.getElem?_map] at h2
   cases e:vs[i]? with
   | none=>rw [e] at h2;cases h2
   | some a=>rw [e] at h2;cases h2;rfl
  obtain ⟨u,hu,rv⟩:=r.get ha
  have hp:ps[i]?=some y:=by
   rw [←S.pre,List.getElem?_take_of_lt (by omega)];exact h1
  have ndP:ps.Nodup:=by rw [←S.pre];exact S.nd.sublist (List.take_sublist _ _)
  refine ⟨u,rv,?_⟩
  rcases S.par y (List.mem_of_getElem? hp) with k | k
  ·exact .inl ⟨k,bindL_get ndP hp hu k⟩
  ·obtain ⟨c,e⟩:=cell_has (n:=s.heap.objs.size+1) k
   refine .inr ⟨.inl k,c,e,?_⟩
   have q:=x.cell y c e
   rw [bindC_get ndP hp hu (by show scope.names.lookup y≠_;rw [k];decide)] at q
   exact q
 ·exact e0.hok.fresh (Nat.le_of_lt (x.above y c (PySem.mem_of_lookup h)))
 ·unfold start
  show _=N.length
  rw [List.length_append,List.length_map,List.length_replicate]
  omega
theorem fn_of {CX:CXT} {P:Program} {w:World} {K:PySem.W.Frag} {mg:Str→Option Value} {base:Heap} {k:Nat} {f:Addr} {name qual:Str} {params:Arguments} {body:List Stmt} {scope:Scope} {dV kV doc pm cdv ct oc:Value} {an od:Option Addr}
  {osl:Array (Option Value)} {N ps:List Str} {sp:Sp} (lk:K.lookup f=some ⟨oc,od,.func (PySem.W.fnOf name qual params body scope dV kV doc pm an cdv ct),osl⟩) (hcd:PySem.W.codeIn K cdv qual=true) (S:FnScope N ps scope)
  (len:∀vs H Q E,sp vs H Q E→vs.length=ps.length)
  (hbody:∀(A:Around) (outer:List Env) (s:Shared) (H:Hp) (vs:List V) (Q:VK) (E:XK),Room k (A.deeper (envOfC qual scope s.heap.objs.size f cdv))→sp vs H Q E →
   ∃t,PSs (cxOf CX P w K mg base N qual scope f cdv A outer s H E) body t∧t { nx:=fun _ H'=>Q .non H',rt:=Q } (start N vs) H) :
  FnOk P w K mg base CX (k+1) f (PySem.W.fnOf name qual params body scope dV kV doc pm an cdv ct) ps sp:=by
 refine ⟨len,fun A outer s H args us vs Q E hr e0 hb r hsp=>?_⟩
 have hl:=len _ _ _ _ hsp
 have KX:K.In s.heap:=e0.mod.kin.keeps fun b o e=>(e0.bs b o e).1
 have lim:s.heap.NoLimit:=e0.mod.nolimit.keeps fun b o e=>(e0.bs b o e).1
 have hkind:∀y∈ps.zip us,scope.names.lookup y.1=some .local∨(scope.names.lookup y.1=some .cell∧((cellsFrom (s.heap.objs.size+1) scope.names []).lookup y.1).isSome=true):=fun ⟨n,v⟩ hy=>by
  rcases S.par n (List.of_mem_zip hy).1 with q | q
  ·exact .inl q
  ·exact .inr ⟨q,PySem.W.cellsFrom_some _ _ _ (.inl q)⟩
 refine codeAny_call_function hr.depth (KX _ _ lk) rfl S.co S.gen rfl (PySem.W.codeRec_of KX hcd) (hb _ _ _ _ ?_)
 refine wpAny_newFunctionEnv_cells S.kind hkind fun env he s1 x=>?_
 subst he
 refine ⟨lim.keeps x.toInCall.keep,codeAny_func ?_⟩
 obtain ⟨t,ht,hq⟩:=hbody A outer s H vs Q E (hr.deeper _) hsp
 have I:Inv (cxOf CX P w K mg base N qual scope f cdv A outer s H E) [] (start N vs) H s1:=inv_start S hr.hd e0 hl r x
 refine wpAny_mono (ht [] s1 (start N vs) H _ I hq) (fun fl s' hs=>?_) fun e s' hs=>hs
 have fin:∀{σ':St} {H':Hp} {v:V} {u:Value},Inv (cxOf CX P w K mg base N qual scope f cdv A outer s H E) [] σ' H' s'→RelV v u→Q v H'→CE outer P w H s Q u s' :=
  fun {σ' H' v u} J rv q=>⟨v,H',J.os,J.bare,J.base,J.hok,rv,q⟩
 cases fl with
 | ret u =>
  obtain ⟨v,σ',H',J,rv,q⟩:=hs
  exact fin J rv q
 | next =>
  obtain ⟨σ',H',J,q⟩:=hs
  exact fin (v:=V.non) (u:=Value.none) J rfl q
 | brk =>
  obtain ⟨_,_,_,q⟩:=hs
  exact False.elim q
 | cont =>
  obtain ⟨_,_,_,q⟩:=hs
  exact False.elim q
end L2
namespace L2
open PySem PySem.Spec PyProof.Rows
section
variable {X:Cx} {x:Str} {p pos:Pos} {e:Expr} {es:List Expr} {t:TA} {id T:String} {r:List V→Hp→VK→Prop}
def tCB (r:List V→Hp→VK→Prop) (t:TA):TE:=fun σ H Q=>t σ H fun vs H1=>r vs H1 Q
theorem pe_callB (hc:CallR X (.builtin id) r) (hg:Gl X x) (hm:X.mg x=none) (hv:bootBuiltins x=some (.builtin id)) (ha:PA X (e::es) t) (hn:x≠"__name__":=by decide) (hdb:(x==("__debug__":Str))=false:=by decide)
  (he:starEach (e::es) X.env=(false,eval e X.env)::starEach es X.env:=by rfl) (hpl:(backTo pos (starEach es X.env)).any (·.1)=false:=by rfl):PE X (.Call (.Name x p) (e::es) [] pos) (tCB r t):=by
 intro pins s σ H Q I h
 refine wpAny_Call_Name_kw (ld_blt I hg hm hv ?_ hn hdb)
 exact PyProof.Rows.callWith_builtin1 (thn (ha pos pins s σ H _ I h) fun us s1 ⟨vs,H1,I1,r1,q1⟩=>hc pins s1 σ H1 vs us Q I1 r1 q1) he hpl
theorem pe_callTy (hc:CallR X (.type T) r) (hg:Gl X x) (hm:X.mg x=none) (hv:bootBuiltins x=some (.type T)) (ha:PA X (e::es) t) (hn:x≠"__name__":=by decide) (hdb:(x==("__debug__":Str))=false:=by decide)
  (he:starEach (e::es) X.env=(false,eval e X.env)::starEach es X.env:=by rfl) (hpl:(backTo pos (starEach es X.env)).any (·.1)=false:=by rfl):PE X (.Call (.Name x p) (e::es) [] pos) (tCB r t):=by
 intro pins s σ H Q I h
 refine wpAny_Call_Name_kw (ld_blt I hg hm hv ?_ hn hdb)
 exact PyProof.Rows.callWith_type1 (thn (ha pos pins s σ H _ I h) fun us s1 ⟨vs,H1,I1,r1,q1⟩=>hc pins s1 σ H1 vs us Q I1 r1 q1) he hpl
end
end L2
namespace HT
open PySem PyProof.Rows
section
open PySem.SeqAt
open PySem.AutoSeq1 (wpAny_loadPart')
open PySem.MeetsSeq PySem.MeetsSeq2 PySem.MeetsSeq3
end
section
variable {prog:Program} {w:World} {A:Around} {E:Value→Shared→Prop} {s:Shared}
def sIx (n d:Nat):Option Int→Nat
 | none=>d
 | some v=>if v < 0 then (v+(n:Int)).toNat else min v.toNat n
theorem sIx_nat (n d k:Nat):sIx n d (some (k:Int))=min k n:=by
 show (if (k:Int) < 0 then ((k:Int)+(n:Int)).toNat else min (k:Int).toNat n)=min k n
 rw [if_neg (by omega),Int.toNat_natCast]
end
end HT
namespace L2
open PySem PySem.Spec PyProof.Rows
abbrev TO:=St→Hp→(Option Int→Hp→Prop)→Prop
def PO (X:Cx) (e:Option Expr) (t:TO):Prop :=
 ∀(pins:List (Addr×Obj)) (s:Shared) (σ:St) (H:Hp) (Q:Option Int→Hp→Prop),Inv X pins σ H s→t σ H Q →
  wpAny (model X.prog X.w) X.A (evalPart e X.env) (fun u s'=>∃o H',Inv X pins σ H' s'∧IsPart u o∧Q o H') X.xe s
def tPart (t:TE):TO:=fun σ H Q=>t σ H fun x H1=>∃i,x=.int i∧Q (some i) H1
section
variable {X:Cx} {e:Expr} {te:TE} {lo hi:Option Expr} {tl th:TO} {pos p2:Pos}
theorem po_some (h:PE X e te):PO X (some e) (tPart te):=by
 intro pins s σ H Q I hw
 rw [evalPart_some]
 refine thn (h pins s σ H _ I hw) fun u s1 ⟨x,H1,I1,r1,q1⟩=>?_
 obtain ⟨i,rfl,q⟩:=q1
 obtain ⟨t,rfl⟩:=r1
 exact ⟨some i,H1,I1,.int i t,q⟩
def SlR (X:Cx) (r:V→Option Int→Option Int→Hp→VK→Prop):Prop :=
 ∀(pins:List (Addr×Obj)) (s:Shared) (σ:St) (H:Hp) (x:V) (v vl vu:Value) (lo hi:Option Int) (sl:Addr) (Q:VK),Inv X pins σ H s→RelV x v→s.heap.IsSliceOf sl vl vu .none→IsPart vl lo→IsPart vu hi→r x lo hi H Q →
  ∃T id,typeLookup (.type T) "__getitem__"=pure (some (.builtin id))∧s.TypeIs v T∧wpAny (model X.prog X.w) X.A (getItem v (.ref sl)) (EP X pins σ Q) X.xe s
def tSl (r:V→Option Int→Option Int→Hp→VK→Prop) (te:TE) (tl th:TO):TE:=fun σ H Q=>te σ H fun x H1=>tl σ H1 fun l H2=>th σ H2 fun u H3=>r x l u H3 Q
theorem pe_slice {r:V→Option Int→Option Int→Hp→VK→Prop} (hr:SlR X r) (he:PE X e te) (hl:PO X lo tl) (hu:PO X hi th):PE X (.Subscript e (.Slice lo hi none p2) pos) (tSl r te tl th):=by
 intro pins s σ H Q I h
 refine Subscript_ (thn (he pins s σ H _ I h) fun v s1 ⟨x,H1,I1,r1,q1⟩=>?_)
 refine wpAny_Slice (thn (hl pins s1 σ H1 _ I1 q1) fun vl s2 ⟨l,H2,I2,pl,q2⟩=>thn (hu pins s2 σ H2 _ I2 q2) fun vu s3 ⟨u,H3,I3,pu,q3⟩=>?_)
 rw [evalPart_none]
 refine wpAny_pure ?_
 have I4:Inv X pins σ H3 { s3 with heap:=s3.heap.push { cls:=.type "slice",data:=.fields #[vl,vu,.none] } }:=I3.kept (t':=s3.toks) fun b ob q=>Heap.get?_push_of_some _ q
 obtain ⟨T,id,hT,ht,hg⟩:=hr pins { s3 with heap:=s3.heap.push { cls:=.type "slice",data:=.fields #[vl,vu,.none] } } σ H3 x v vl vu l u s3.heap.objs.size Q I4 r1 (Heap.IsSliceOf.new ..) pl pu q3
 show wpAny (model X.prog X.w) X.A (subscriptTail e (.Slice lo hi none p2) v (.ref s3.heap.objs.size)) (EP X pins σ Q) X.xe { s3 with heap:=s3.heap.push { cls:=.type "slice",data:=.fields #[vl,vu,.none] } }
 exact tail_any (ops:=[.ref s3.heap.objs.size,v]) ht hT hg (by with_unfolding_all rfl)
def cutV (xs:List V) (lo hi:Option Int):List V:=(xs.drop (HT.sIx xs.length 0 lo)).take (HT.sIx xs.length xs.length hi - HT.sIx xs.length 0 lo)
theorem cutV_length (xs:List V) (lo hi:Option Int):(cutV xs lo hi).length≤xs.length:=by
 unfold cutV
 rw [List.length_take,List.length_drop]
 omega
end
end L2
namespace L2
open PySem PySem.Spec PyProof.Rows
def ixN (n:Nat) (i:Int):Option Nat:=if 0≤i then (if i < n then some i.toNat else none) else if -(n:Int)≤i then some (i+n).toNat else none
def atI {α:Type} (xs:List α) (i:Int):Option α:=(ixN xs.length i).bind fun j=>xs[j]?
theorem ixN_seq {n:Nat} {i:Int} {j:Nat} (h:ixN n i=some j):seqIndex? i n=some j∧j < n∧-(n:Int)≤i∧i < n:=by
 unfold ixN at h
 by_cases h0:0≤i
 ·rw [if_pos h0] at h
  by_cases h1:i < n
  ·rw [if_pos h1] at h
   have e:i.toNat=j:=Option.some.inj h
   exact ⟨by rw [seqIndex_of h0 h1,e],by omega,by omega,h1⟩
  ·rw [if_neg h1] at h;cases h
 ·rw [if_neg h0] at h
  by_cases h1:-(n:Int)≤i
  ·rw [if_pos h1] at h
   have e:(i+n).toNat=j:=Option.some.inj h
   exact ⟨by rw [seqIndex_neg (by omega) h1,e],by omega,h1,by omega⟩
  ·rw [if_neg h1] at h;cases h
theorem atI_get {α:Type} {xs:List α} {i:Int} {v:α} (h:atI xs i=some v):∃j,seqIndex? i xs.length=some j∧xs[j]?=some v∧j < xs.length∧-(xs.length:Int)≤i∧i < xs.length:=by
 unfold atI at h
 cases e:ixN xs.length i with
 | none=>rw [e] at h;cases h
 | some j =>
  rw [e] at h
  obtain ⟨h1,h2,h3,h4⟩:=ixN_seq e
  exact ⟨j,h1,h,h2,h3,h4⟩
theorem atI_nat {α:Type} {xs:List α} {j:Nat} {v:α} (h:xs[j]?=some v):atI xs (j:Int)=some v:=by
 have hj:j < xs.length:=(List.getElem?_eq_some_iff.mp h).1
 have e:ixN xs.length (j:Int)=some j:=by
  unfold ixN
  rw [if_pos (by omega),if_pos (by omega)];simp
 unfold atI;rw [e];exact h
def PlainIx (b:Expr):Prop:=∀o i,subscripted b false o i=operate [o,i] (getItem o i)
def IxR (X:Cx) (r:R2):Prop :=
 ∀(value slice:Expr) (pins:List (Addr×Obj)) (s:Shared) (σ:St) (H:Hp) (x y:V) (v u:Value) (Q:VK),Inv X pins σ H s→RelV x v→RelV y u→r x y H Q →
  subscripted slice false v u=operate [v,u] (getItem v u)→wpAny (model X.prog X.w) X.A (subscriptTail value slice v u) (EP X pins σ Q) X.xe s
def MtR (X:Cx) (id:String) (r:V→List V→Hp→VK→Prop):Prop :=
 ∀(pins:List (Addr×Obj)) (s:Shared) (σ:St) (H:Hp) (x:V) (xs:List V) (v:Value) (us:List Value) (Q:VK),Inv X pins σ H s→RelV x v→Vals xs us→r x xs H Q →
  wpAny (model X.prog X.w) X.A (call (.builtin id) (v::us)) (EP X pins σ Q) X.xe s
section
variable {X:Cx} {a b:Expr} {ta tb:TE} {pos:Pos}
theorem pe_ix {r:R2} (hr:IxR X r) (ha:PE X a ta) (hb:PE X b tb) (hs:PlainIx b):PE X (.Subscript a b pos) (tOp r ta tb):=by
 intro pins s σ H Q I h
 exact Subscript_ (binT ha hb I h fun v u s2 x y H2 I2 rx ry q=>hr a b pins s2 σ H2 x y v u Q I2 rx ry q (hs _ _))
def rIxL (K:PySem.W.Frag):R2:=fun x y H Q=>∃p xs i v,x=.ref p∧y=.int i∧SqL K H p xs∧atI xs i=some v∧Q v H
def rIxT (K:PySem.W.Frag):R2:=fun x y H Q=>∃p xs i v,x=.ref p∧y=.int i∧SqT K H p xs∧atI xs i=some v∧Q v H
theorem ix_list:IxR X (rIxL X.K):=by
 intro value slice pins s σ H x y v u Q I rx ry h hs
 obtain ⟨p,xs,i,z,rfl,rfl,hq,he,q⟩:=h
 cases rx
 obtain ⟨t,rfl⟩:=ry
 obtain ⟨its,r,pl,hz⟩:=I.list hq
 obtain ⟨j,h1,h2,h3,h4,h5⟩:=atI_get he
 obtain ⟨w,ew,rw'⟩:=r.get h2
 have hl:=r.length
 have hn:=line63
 have fin:EP X pins σ Q w s:=⟨z,H,I,rw',q⟩
 by_cases h0:0≤i
 ·have hj:i.toNat=j:=by
   rw [seqIndex_of h0 h5] at h1
   exact Option.some.inj h1
  exact item_listR pl.isList h0 (by omega) (by rw [hj];simpa using ew) fin hs
 ·have hj:(i+(its.toArray.size:Int)).toNat=j:=by
   rw [seqIndex_neg (by omega) h4] at h1
   rw [List.size_toArray,←hl]
   exact Option.some.inj h1
  exact subscriptTail_builtinR (x:=w) pl.isList.typeIs slot_list_getitem.lookup
   (wpAny_getItem_list_neg (Q:=fun r s'=>r=w∧EP X pins σ Q r s') pl.isList (by omega) (by rw [List.size_toArray] <;> omega) (by omega) (by rw [hj];simpa using ew) ⟨rfl,fin⟩) hs
theorem ix_tup:IxR X (rIxT X.K):=by
 intro value slice pins s σ H x y v u Q I rx ry h hs
 obtain ⟨p,xs,i,z,rfl,rfl,hq,he,q⟩:=h
 cases rx
 obtain ⟨t,rfl⟩:=ry
 obtain ⟨its,r,pl,hz⟩:=I.tuple hq
 obtain ⟨j,h1,h2,h3,h4,h5⟩:=atI_get he
 obtain ⟨w,ew,rw'⟩:=r.get h2
 have hl:=r.length
 have hn:=line63
 have fin:EP X pins σ Q w s:=⟨z,H,I,rw',q⟩
 exact subscriptTail_builtinR (x:=w) pl.typeIs slot_tuple_getitem.lookup
  (getItem_tuple (j:=j) (Q:=fun r s'=>r=w∧EP X pins σ Q r s') pl (by omega) (by omega) (by rw [List.size_toArray,←hl];exact h1) (by simpa using ew) ⟨rfl,fin⟩) hs
theorem mapSeq_set (its:List Value) (n j:Nat) (u:Value):Obj.mapSeq (·.setIfInBounds j u) { cls:=.type "list",data:=.seq its.toArray n }={ cls:=.type "list",data:=.seq (its.set j u).toArray n }:=by
 simp [Obj.mapSeq]
theorem Inv.lst {pins:List (Addr×Obj)} {σ:St} {H:Hp} {s:Shared} {p:Addr} {xs:List V} (I:Inv X pins σ H s) (h:H p=some (.lst xs)) :
  ∃(its:List Value) (n:Nat),Vals xs its∧s.heap.get? p=some { cls:=.type "list",data:=.seq its.toArray n }∧xs.length≤sizeLine:=by
 obtain ⟨z,its,n,r,e⟩:=I.hok p _ h
 exact ⟨its,n,r,e,z⟩
theorem Inv.lstUpd {pins:List (Addr×Obj)} {σ:St} {H:Hp} {s:Shared} {p:Addr} {xs ys:List V} {its its':List Value} {n n':Nat} {f:Obj→Obj} (I:Inv X pins σ H s) (h:H p=some (.lst xs))
  (ho:s.heap.get? p=some { cls:=.type "list",data:=.seq its.toArray n }) (hf:f { cls:=.type "list",data:=.seq its.toArray n }={ cls:=.type "list",data:=.seq its'.toArray n' }) (r:Vals ys its') (hz:ys.length≤sizeLine) (t:Nat) :
  Inv X pins σ (upd H p (.lst ys)) { s with heap:=s.heap.update p f,toks:=t }:=by
 have e:(s.heap.update p f).get? p=some { cls:=.type "list",data:=.seq its'.toArray n' }:=by
  rw [Heap.get?_update_self f ho (by rw [hf] <;> rfl),hf]
 refine I.write (x:=p) (e:=p) (by rw [h];trivial) (.inl rfl) (fun b u hb q=>(Heap.get?_update_other _ _ (Ne.symm hb)).trans q) ⟨_,e⟩ ?_
 exact ⟨hz,its',n',r,e⟩
def rSetL:V→V→V→Hp→(Hp→Prop)→Prop:=fun o i v H Q=>∃p xs k j,o=.ref p∧i=.int k∧H p=some (.lst xs)∧ixN xs.length k=some j∧Q (upd H p (.lst (xs.set j v)))
theorem set_list:PSet X rSetL:=by
 intro pins s σ H o i v ov iv u Q I ro ri rv h
 obtain ⟨p,xs,k,j,rfl,rfl,hp,hj,q⟩:=h
 cases ro
 obtain ⟨t,rfl⟩:=ri
 obtain ⟨its,n,r,ho,hz⟩:=I.lst hp
 obtain ⟨h1,h2,h3,h4⟩:=ixN_seq hj
 have hl:=r.length
 have hn:=line63
 have I':Inv X pins σ (upd H p (.lst (xs.set j v))) { s with heap:=s.heap.update p (Obj.mapSeq (·.setIfInBounds j u)) } :=
  I.lstUpd hp ho (mapSeq_set its n j u) (r.set rv j) (by rw [List.length_set];exact hz) s.toks
 by_cases h0:0≤k
 ·have hk:k.toNat=j:=by
   rw [seqIndex_of h0 h4] at h1
   exact Option.some.inj h1
  exact PySem.W.ki_setAt ho h0 (by omega) (by rw [List.size_toArray,←hl];exact h4) (by rw [hk];exact ⟨_,I',q⟩)
 ·have hk:(k+(its.toArray.size:Int)).toNat=j:=by
   rw [seqIndex_neg (by omega) h3] at h1
   rw [List.size_toArray,←hl]
   exact Option.some.inj h1
  exact PySem.W.ki_setBack ho (by omega) (by rw [List.size_toArray,←hl];exact h3) (by omega) (by rw [hk];exact ⟨_,I',q⟩)
theorem slice_bounds (lo hi:Option Int) (n:Nat):(sliceBounds lo hi none n).1=((HT.sIx n 0 lo:Nat):Int)∧(sliceBounds lo hi none n).2.1=((HT.sIx n n hi:Nat):Int)∧(sliceBounds lo hi none n).2.2=1:=by
 refine ⟨?_,?_,rfl⟩
 ·cases lo with
  | none=>simp [sliceBounds,HT.sIx]
  | some i =>
   simp only [sliceBounds,HT.sIx,Option.getD_none,show (1:Int) > 0 by decide,if_true]
   by_cases h:i < 0
   ·simp only [h,if_true] <;> omega
   ·simp only [h,if_false] <;> omega
 ·cases hi with
  | none=>simp [sliceBounds,HT.sIx]
  | some i =>
   simp only [sliceBounds,HT.sIx,Option.getD_none,show (1:Int) > 0 by decide,if_true]
   by_cases h:i < 0
   ·simp only [h,if_true] <;> omega
   ·simp only [h,if_false] <;> omega
theorem slicePick_cut (its:List Value) (lo hi:Option Int):slicePick its.toArray lo hi none=((its.drop (HT.sIx its.length 0 lo)).take (HT.sIx its.length its.length hi - HT.sIx its.length 0 lo)).toArray:=by
 obtain ⟨h1,h2,h3⟩:=slice_bounds lo hi its.toArray.size
 unfold slicePick
 rw [h1,h2,h3]
 simp only [sliceRange_one,pick_run,List.size_toArray] <;> rfl
def rSlL (K:PySem.W.Frag):V→Option Int→Option Int→Hp→VK→Prop:=fun x lo hi H Q=>∃a xs,x=.ref a∧SqL K H a xs∧∀p,H p=none→Q (.ref p) (upd H p (.lst (cutV xs lo hi)))
theorem sl_list:SlR X (rSlL X.K):=by
 intro pins s σ H x v vl vu lo hi sl Q I rx hs pl pu h
 obtain ⟨a,xs,rfl,hx,q⟩:=h
 cases rx
 obtain ⟨its,r,ht,hz⟩:=I.list hx
 have hlen:=r.length
 refine ⟨"list",_,slot_list_getitem.lookup,ht.isList.typeIs,?_⟩
 refine wpAny_getItem_list_slice ht.isList hs pl pu .none (by simp) ?_ (by rw [List.size_toArray] <;> omega)
 rw [slicePick_cut,←hlen]
 refine ⟨.ref s.heap.objs.size,_,I.laid (t':=s.toks) (o:=.lst (cutV xs lo hi)) (fun b ob q=>Heap.get?_push_of_some _ q) (Nat.le_refl _) ?_,rfl,q _ (I.hok.fresh (Nat.le_refl _))⟩
 exact ⟨Nat.le_trans (cutV_length xs lo hi) hz,_,0,(r.drop (HT.sIx xs.length 0 lo)).take (HT.sIx xs.length xs.length hi - HT.sIx xs.length 0 lo),Heap.get?_push_size _ rfl⟩
def flatV:V→Bool
 | .non=>true
 | .bl _=>true
 | .int _=>true
 | .str _=>true
 | _=>false
def eqV:V→V→Bool
 | .non,.non=>true
 | .bl a,.bl b=>a==b
 | .bl a,.int b=>(if a then 1 else 0)==b
 | .int a,.bl b=>a==(if b then 1 else 0)
 | .int a,.int b=>a==b
 | .str a,.str b=>a==b
 | _,_=>false
theorem eqAt_V {A:Around} {s:Shared} {y x:V} {u v:Value} (ry:RelV y u) (rx:RelV x v) (fy:flatV y=true) (fx:flatV x=true):SeqAt.EqAt A s u v (eqV y x):=by
 cases y with
 | non =>
  cases ry
  cases x with
  | non=>cases rx;exact SeqAt.EqAt.same _
  | bl b=>cases rx;exact SeqAt.EqAt.none_bool b
  | int b=>obtain ⟨t,rfl⟩:=rx;exact SeqAt.EqAt.none_int b t
  | str b=>obtain ⟨t,rfl⟩:=rx;exact SeqAt.EqAt.none_str b t
  | _=>exact absurd (show false=true from fx) Bool.false_ne_true
 | bl a =>
  cases ry
  cases x with
  | non=>cases rx;exact SeqAt.EqAt.bool_none a
  | bl b=>cases rx;exact SeqAt.EqAt.bool_bool a b
  | int b=>obtain ⟨t,rfl⟩:=rx;exact SeqAt.EqAt.bool_int a b t
  | str b=>obtain ⟨t,rfl⟩:=rx;exact SeqAt.EqAt.bool_str a b t
  | _=>exact absurd (show false=true from fx) Bool.false_ne_true
 | int a =>
  obtain ⟨t',rfl⟩:=ry
  cases x with
  | non=>cases rx;exact SeqAt.EqAt.int_none a t'
  | bl b=>cases rx;exact SeqAt.EqAt.int_bool a t' b
  | int b=>obtain ⟨t,rfl⟩:=rx;exact SeqAt.EqAt.int_int a t' b t
  | str b=>obtain ⟨t,rfl⟩:=rx;exact SeqAt.EqAt.int_str a t' b t
  | _=>exact absurd (show false=true from fx) Bool.false_ne_true
 | str a =>
  obtain ⟨t',rfl⟩:=ry
  cases x with
  | non=>cases rx;exact SeqAt.EqAt.str_none a t'
  | bl b=>cases rx;exact SeqAt.EqAt.str_bool a t' b
  | int b=>obtain ⟨t,rfl⟩:=rx;exact SeqAt.EqAt.str_int a t' b t
  | str b=>obtain ⟨t,rfl⟩:=rx;exact SeqAt.EqAt.str_str a t' b t
  | _=>exact absurd (show false=true from fx) Bool.false_ne_true
 | _=>exact absurd (show false=true from fy) Bool.false_ne_true
def eqU (x:V) (u:Value):Bool:=match u with
 | .none=>eqV .non x
 | .bool b=>eqV (.bl b) x
 | .int i _=>eqV (.int i) x
 | .str z _=>eqV (.str z) x
 | _=>false
theorem eqU_of {x y:V} {u:Value} (r:RelV y u) (f:flatV y=true):eqU x u=eqV y x:=by
 cases y with
 | non=>cases r;rfl
 | bl b=>cases r;rfl
 | int i=>obtain ⟨t,rfl⟩:=r;rfl
 | str z=>obtain ⟨t,rfl⟩:=r;rfl
 | _=>exact absurd (show false=true from f) Bool.false_ne_true
theorem any_eqU {x:V}:∀{xs:List V} {us:List Value},Vals xs us→xs.all flatV=true→us.any (eqU x)=xs.any fun y=>eqV y x
 | _,_,.nil,_=>rfl
 | y::xs,u::us,.cons r t,f=>by
  rw [List.all_cons,Bool.and_eq_true] at f
  rw [List.any_cons,List.any_cons,eqU_of r f.1,any_eqU t f.2]
theorem mem_eqAt {A:Around} {s:Shared} {x:V} {v:Value} (rx:RelV x v) (fx:flatV x=true):∀{xs:List V} {us:List Value},Vals xs us→xs.all flatV=true→∀u∈us,SeqAt.EqAt A s u v (eqU x u)
 | _,_,.nil,_=>fun u hu=>by cases hu
 | y::xs,u::us,.cons r t,f=>fun u' hu=>by
  rw [List.all_cons,Bool.and_eq_true] at f
  rcases List.mem_cons.mp hu with rfl | hu
  ·rw [eqU_of r f.1];exact eqAt_V r rx f.1 fx
  ·exact mem_eqAt rx fx t f.2 u' hu
def inV (x:V) (xs:List V):Bool:=xs.any fun y=>eqV y x
def rIn (K:PySem.W.Frag) (neg:Bool):R2:=fun x y H Q=>∃p xs,y=.ref p∧(SqL K H p xs∨SqT K H p xs)∧flatV x=true∧xs.all flatV=true∧Q (.bl (if neg then !inV x xs else inV x xs)) H
theorem op_in_seq:OpR X (compareOp .In) (rIn X.K false):=by
 intro pins s σ H x y v u Q I rx ry h
 obtain ⟨p,xs,rfl,hq,fx,fs,q⟩:=h
 cases ry
 rcases hq with hq | hq
 ·obtain ⟨its,r,pl,hz⟩:=I.list hq
  refine SeqAt.in_listAt (eqU x) pl.isList (fun w hw=>mem_eqAt rx fx r fs w (by simpa using hw)) ⟨.bl _,H,I,rfl,?_⟩
  rw [show its.toArray.any (eqU x)=its.any (eqU x) by simp,any_eqU r fs]
  exact q
 ·obtain ⟨its,r,pl,hz⟩:=I.tuple hq
  refine SeqAt.in_tupleAt (eqU x) pl (fun w hw=>mem_eqAt rx fx r fs w (by simpa using hw)) ⟨.bl _,H,I,rfl,?_⟩
  rw [show its.toArray.any (eqU x)=its.any (eqU x) by simp,any_eqU r fs]
  exact q
theorem call_len_seq:CallR X (.builtin "len") (fun xs H Q=>∃p ys,xs=[.ref p]∧(SqL X.K H p ys∨SqT X.K H p ys)∧Q (.int ys.length) H):=by
 intro pins s σ H xs us Q I r h
 obtain ⟨p,ys,rfl,hq,q⟩:=h
 obtain ⟨u,rfl,rx⟩:=vals1 r
 cases rx
 have hn:=line63
 rcases hq with hq | hq
 ·obtain ⟨its,r',pl,hz⟩:=I.list hq
  have hlen:=r'.length
  exact Calls.call_len_list pl.isList (by simp only [List.size_toArray] <;> omega) ⟨.int ys.length,H,I.tok _,⟨s.toks+1,by rw [List.size_toArray,hlen]⟩,q⟩
 ·obtain ⟨its,r',pl,hz⟩:=I.tuple hq
  have hlen:=r'.length
  exact len_tuple pl (by simp only [List.size_toArray] <;> omega) ⟨.int ys.length,H,I.tok _,⟨s.toks+1,by rw [List.size_toArray,hlen]⟩,q⟩
theorem call_list_of:CallR X (.type "list") (fun xs H Q=>∃p ys,xs=[.ref p]∧(SqL X.K H p ys∨SqT X.K H p ys)∧∀l,H l=none→Q (.ref l) (upd H l (.lst ys))):=by
 intro pins s σ H xs us Q I r h
 obtain ⟨p,ys,rfl,hq,q⟩:=h
 obtain ⟨u,rfl,rx⟩:=vals1 r
 cases rx
 have fin:∀(its:List Value),Vals ys its→ys.length≤sizeLine→∀(h':Heap) (c':Nat),(∀b o',s.heap.get? b=some o'→h'.get? b=some o') →
   h'.get? s.heap.objs.size=some { cls:=.type "list",dict:=none,data:=.seq its.toArray c',slots:=#[] }→EP X pins σ Q (.ref s.heap.objs.size) { s with heap:=h' }:=fun its r' hz h' c' kp e =>
  ⟨.ref s.heap.objs.size,_,I.laid (t':=s.toks) kp (Nat.le_refl _) (show ObjOk X.prog X.w _ h' _ (.lst ys) from ⟨hz,its,c',r',e⟩),rfl,q _ (I.hok.fresh (Nat.le_refl _))⟩
 rcases hq with hq | hq
 ·obtain ⟨its,r',pl,hz⟩:=I.list hq
  have hlen:=r'.length
  obtain ⟨o,ho,hc,n,hd⟩:=pl.isList
  exact call_list_seq p (.inl rfl) ho hc hd (fun h' c' kp e=>fin its r' hz h' c' kp e) (by simp only [List.size_toArray] <;> omega)
 ·obtain ⟨its,r',pl,hz⟩:=I.tuple hq
  have hlen:=r'.length
  obtain ⟨o,ho,hc,n,hd⟩:=pl
  exact call_list_seq p (.inr rfl) ho hc hd (fun h' c' kp e=>fin its r' hz h' c' kp e) (by simp only [List.size_toArray] <;> omega)
theorem call_tuple_of:CallR X (.type "tuple") (fun xs H Q=>∃p ys,xs=[.ref p]∧((SqL X.K H p ys∧∀l,H l=none→Q (.ref l) (upd H l (.tup ys)))∨(SqT X.K H p ys∧Q (.ref p) H))):=by
 intro pins s σ H xs us Q I r h
 obtain ⟨p,ys,rfl,h⟩:=h
 obtain ⟨u,rfl,rx⟩:=vals1 r
 cases rx
 rcases h with ⟨hq,q⟩ | ⟨hq,q⟩
 ·obtain ⟨its,r',pl,hz⟩:=I.list hq
  have hlen:=r'.length
  refine call_tuple_list pl.isList (fun h' kp=>?_) (by simp only [List.size_toArray] <;> omega)
  have I1:Inv X pins σ H { s with heap:=h' }:=I.kept (t':=s.toks) kp
  have I2:Inv X pins σ (upd H h'.objs.size (.tup ys)) { s with heap:=h'.push { cls:=.type "tuple",data:=.seq its.toArray } } :=
   I1.laid (t':=s.toks) (fun b o e=>Heap.get?_push_of_some _ e) (Nat.le_refl _) (show ObjOk X.prog X.w _ _ _ (.tup ys) from ⟨hz,its,r',IsTup.new _ _⟩)
  exact ⟨.ref h'.objs.size,_,I2,rfl,q _ (I1.hok.fresh (Nat.le_refl _))⟩
 ·obtain ⟨its,r',pl,hz⟩:=I.tuple hq
  exact call_tuple_same pl ⟨.ref p,H,I,rfl,q⟩
def tyV (K:PySem.W.Frag) (T:String) (x:V) (H:Hp):Prop:=match x with
 | .str _=>T = "str"
 | .int _=>T = "int"
 | .ref p=>(T = "list"∧∃xs,SqL K H p xs)∨(T = "tuple"∧∃o,K.lookup p=some o∧o.cls=.type "tuple"∧o.dict=none) ∨
   (T = "dict"∧((∃kvs,H p=some (.dK kvs))∨∃kvs,H p=some (.dT kvs)))∨(T = "set"∧∃S n,H p=some (.set S n))
 | _=>False
theorem tyV_is {pins:List (Addr×Obj)} {σ:St} {H:Hp} {s:Shared} {T:String} {x:V} {v:Value} (I:Inv X pins σ H s) (r:RelV x v) (ty:tyV X.K T x H) :
  s.TypeIs v T∧∀a,v=.ref a→∃ob,s.heap.get? a=some ob∧ob.dict=none:=by
 cases x with
 | str z =>
  obtain ⟨t,rfl⟩:=r
  cases (show T = "str" from ty)
  exact ⟨typeIs_str s z t,fun _ e=>nomatch e⟩
 | int i =>
  obtain ⟨t,rfl⟩:=r
  cases (show T = "int" from ty)
  exact ⟨typeIs_int s i t,fun _ e=>nomatch e⟩
 | ref p =>
  cases r
  rcases ty with ⟨rfl,xs,hq⟩ | ⟨rfl,o,hk,hc,hd⟩ | ⟨rfl,hk⟩ | ⟨rfl,S,n,hk⟩
  ·obtain ⟨its,_,pl,_⟩:=I.list hq
   refine ⟨pl.isList.typeIs,fun a e=>?_⟩
   cases e
   obtain ⟨o,n,e,c,hd,_⟩:=pl
   exact ⟨o,e,hd⟩
  ·refine ⟨⟨o,I.kIn p o hk,hc⟩,fun a e=>?_⟩
   cases e
   exact ⟨o,I.kIn _ o hk,hd⟩
  ·have z:∃o,s.heap.get? p=some o∧o.ExactDict:=by
    rcases hk with ⟨kvs,hk⟩ | ⟨kvs,hk⟩
    ·obtain ⟨_,_,_,_,o,_,_,e,ex,_⟩:=I.hok p _ hk
     exact ⟨o,e,ex⟩
    ·obtain ⟨_,_,_,_,o,_,_,e,ex,_⟩:=I.hok p _ hk
     exact ⟨o,e,ex⟩
   obtain ⟨o,e,ex⟩:=z
   refine ⟨⟨o,e,ex.1⟩,fun a e2=>?_⟩
   cases e2
   exact ⟨o,e,ex.2.1⟩
  ·obtain ⟨o,_,_,_,e,ex,_⟩:=I.hok p _ hk
   refine ⟨⟨o,e,ex.1⟩,fun a e2=>?_⟩
   cases e2
   exact ⟨o,e,ex.2.1⟩
 | _=>exact False.elim ty
def tBM0 (K:PySem.W.Frag) (T:String) (r:V→List V→Hp→VK→Prop) (to:TE):TE:=fun σ H Q=>to σ H fun x H1=>tyV K T x H1∧r x [] H1 Q
def tBM (K:PySem.W.Frag) (T:String) (r:V→List V→Hp→VK→Prop) (to:TE) (t:TA):TE:=fun σ H Q=>to σ H fun x H1=>tyV K T x H1∧t σ H1 fun xs H2=>r x xs H2 Q
variable {o e:Expr} {es:List Expr} {to:TE} {t:TA} {name:Str} {apos cpos:Pos} {T id:String} {r:V→List V→Hp→VK→Prop}
theorem pe_bm0 (pa:PlainAttrs T) (slot:Slot T name id) (hty:typeOf (.builtin id)=pure (.type "method_descriptor")) (hm:MtR X id r) (ho:PE X o to)
  (hbase:attributeBase o name X.env (eval o X.env)=eval o X.env:=by rfl) (hline:(apos.endLine==cpos.line)=true:=by rfl):PE X (.Call (.Attribute o name apos) [] [] cpos) (tBM0 X.K T r to):=by
 intro pins s σ H Q I h
 refine wpAny_Call_method0_late hbase hline (thn (ho pins s σ H _ I h) fun v s1 ⟨x,H1,I1,r1,ty,q1⟩=>?_)
 obtain ⟨h1,h2⟩:=tyV_is I1 r1 ty
 exact ⟨T,id,pa,slot,hty,h1,h2,Calls.callWith_builtin rfl (PySem.evalArgs_none (hm pins s1 σ H1 x [] v [] Q I1 r1 .nil q1))⟩
theorem pe_bm (pa:PlainAttrs T) (slot:Slot T name id) (hty:typeOf (.builtin id)=pure (.type "method_descriptor")) (hm:MtR X id r) (ho:PE X o to) (ha:PA X (e::es) t)
  (hbase:attributeBase o name X.env (eval o X.env)=eval o X.env:=by rfl)
  (hfew:((backTo cpos (starEach (e::es) X.env)).all (fun x=>!x.1)&&(backToKw cpos (keywordEach [] X.env)).all (fun x=>x.1.isSome)
  &&decide ((e::es).length+([]:List Keyword).length+(if ([]:List Keyword).isEmpty then 0 else 1) < 30))=true:=by rfl)
  (hline:(apos.endLine==cpos.line)=true:=by rfl) (hs:starEach (e::es) X.env=(false,eval e X.env)::starEach es X.env:=by rfl) (hplain:(backTo cpos (starEach es X.env)).any (·.1)=false:=by rfl) :
  PE X (.Call (.Attribute o name apos) (e::es) [] cpos) (tBM X.K T r to t):=by
 intro pins s σ H Q I h
 refine wpAny_Call_method_late hbase hfew hline rfl (thn (ho pins s σ H _ I h) fun v s1 ⟨x,H1,I1,r1,ty,q1⟩=>?_)
 obtain ⟨h1,h2⟩:=tyV_is I1 r1 ty
 refine ⟨T,id,pa,slot,hty,h1,h2,?_⟩
 have hA:=ha cpos pins s1 σ H1 _ I1 q1
 rw [hs] at hA ⊢
 refine Calls.callWith_builtin (by show (false||(backTo cpos (starEach es X.env)).any (·.1))=false;rw [hplain] <;> rfl) (Calls.evalArgs_plain ?_)
 exact thn hA fun us s2 ⟨vs,H2,I2,r2,q2⟩=>hm pins s2 σ H2 x vs v us Q I2 r1 r2 q2
end
end L2
namespace L2
open PySem PySem.Spec PyProof.Rows
def MtM (X:Cx) (id:String) (r:V→List V→Hp→VK→Prop):Prop :=
 ∀(pins:List (Addr×Obj)) (s:Shared) (σ:St) (H:Hp) (x:V) (xs:List V) (v:Value) (us:List Value) (Q:VK),Inv X pins σ H s→RelV x v→Vals xs us→r x xs H Q →
  wpAny (model X.prog X.w) X.A (call (.builtin id) (v::us)) (EP X pins σ Q) X.xe s
theorem Vals.one:∀{x:V} {us:List Value},Vals [x] us→∃u,us=[u]∧RelV x u
 | _,_,.cons r .nil=>⟨_,rfl,r⟩
theorem Vals.zero:∀{us:List Value},Vals [] us→us=[]
 | _,.nil=>rfl
theorem Vals.dropLast {xs:List V} {us:List Value} (h:Vals xs us):Vals xs.dropLast us.dropLast:=by
 induction h with
 | nil=>exact .nil
 | cons r t ih =>
  cases t with
  | nil=>exact .nil
  | cons q t'=>exact .cons r ih
theorem Vals.eraseIdx:∀{xs:List V} {us:List Value} (i:Nat),Vals xs us→Vals (xs.eraseIdx i) (us.eraseIdx i)
 | _,_,_,.nil=>.nil
 | _,_,0,.cons _ t=>t
 | _,_,i+1,.cons r t=>.cons r (Vals.eraseIdx i t)
theorem Vals.rep {xs:List V} {us:List Value} (h:Vals xs us):∀k:Nat,Vals (List.replicate k xs).flatten (List.replicate k us).flatten
 | 0=>.nil
 | k+1=>by
  rw [List.replicate_succ,List.replicate_succ,List.flatten_cons,List.flatten_cons]
  exact Vals.append h (Vals.rep h k)
theorem erase_last {α:Type} (l:List α):l.eraseIdx (l.length - 1)=l.dropLast:=by
 induction l with
 | nil=>rfl
 | cons a r ih =>
  cases r with
  | nil=>rfl
  | cons b r =>
   have e:(a::b::r).length - 1=((b::r).length - 1)+1:=by
    have h1:(a::b::r).length=r.length+2:=rfl
    have h2:(b::r).length=r.length+1:=rfl
    omega
   rw [e,List.eraseIdx_cons_succ,ih]
   all_goals rfl
theorem len_erase {α:Type}:∀(l:List α) (i:Nat),(l.eraseIdx i).length≤l.length
 | [],_=>Nat.le_refl _
 | _::_,0=>Nat.le_succ _
 | _::r,i+1=>Nat.succ_le_succ (len_erase r i)
theorem foldl_rep (its:List Value):∀(k:Nat) (acc:List Value),
  List.foldl (fun x1 x2=>x1++x2) acc.toArray (List.replicate k its.toArray)=(acc++(List.replicate k its).flatten).toArray
 | 0,acc=>by simp
 | k+1,acc=>by
  have e:acc.toArray++its.toArray=(acc++its).toArray:=by simp
  have e2:(acc++its)++(List.replicate k its).flatten=acc++(List.replicate (k+1) its).flatten:=by
   rw [List.replicate_succ,List.flatten_cons,List.append_assoc]
  rw [←e2,←foldl_rep its k (acc++its),←e,List.replicate_succ,List.foldl_cons]
section
variable {X:Cx} {pins:List (Addr×Obj)} {σ:St} {H:Hp} {s:Shared} {l b:Addr} {xs ys zs:List V}
theorem Inv.lset {its its':List Value} {n:Nat} {f:Array Value→Array Value} {t':Nat} (I:Inv X pins σ H s) (hH:H l=some (.lst xs))
  (e:s.heap.get? l=some { cls:=.type "list",data:=.seq its.toArray n }) (hf:f its.toArray=its'.toArray) (hv:Vals ys its') (hz:ys.length≤sizeLine) :
  Inv X pins σ (upd H l (.lst ys)) { s with heap:=s.heap.update l (Obj.mapSeq f),toks:=t' }:=by
 have q:=PySem.IsL.update e f
 rw [hf] at q
 refine I.write (x:=l) (e:=l) (by rw [hH];exact trivial) (.inl rfl) (fun b' u hb hu=>(Heap.get?_update_other s.heap (Obj.mapSeq f) (Ne.symm hb)).trans hu) ⟨_,q⟩ ?_
 exact ⟨hz,its',_,hv,q⟩
theorem Inv.lnew {its:List Value} {t':Nat} (I:Inv X pins σ H s) (hv:Vals ys its) (hz:ys.length≤sizeLine) :
  Inv X pins σ (upd H s.heap.objs.size (.lst ys)) { s with heap:=s.heap.push { cls:=.type "list",data:=.seq its.toArray },toks:=t' } :=
 I.laid (fun _ _ q=>Heap.get?_push_of_some _ q) (Nat.le_refl _) ⟨hz,its,0,hv,Heap.get?_push_size _ rfl⟩
theorem Inv.fresh (I:Inv X pins σ H s):H s.heap.objs.size=none:=I.hok.fresh (Nat.le_refl _)
theorem Inv.lstM (I:Inv X pins σ H s) (hH:H l=some (.lst xs)):xs.length≤sizeLine∧∃(its:List Value) (n:Nat),Vals xs its∧xs.length=its.length∧s.heap.get? l=some { cls:=.type "list",data:=.seq its.toArray n }:=by
 obtain ⟨z,its,n,r,e⟩:=I.hok l _ hH
 exact ⟨z,its,n,r,r.length,e⟩
theorem notLongL {n:Nat} (h:n≤sizeLine):Builtin.List.listTooLong n=false:=by
 unfold Builtin.List.listTooLong
 exact decide_eq_false (by omega)
end
section
variable {X:Cx}
def rAppend:V→List V→Hp→VK→Prop:=fun x vs H Q=>∃l xs y,x=.ref l∧vs=[y]∧H l=some (.lst xs)∧xs.length < sizeLine∧Q .non (upd H l (.lst (xs++[y])))
theorem mt_append:MtM X "list.append" rAppend:=by
 intro pins s σ H x vs v us Q I rx rv h
 obtain ⟨l,xs,y,rfl,rfl,hH,hz,q⟩:=h
 cases rx
 obtain ⟨u,rfl,ru⟩:=rv.one
 obtain ⟨z,its,n,r,hl,e⟩:=I.lstM hH
 refine call_meets F.slot_list_append ⟨_,e,rfl⟩ F.entry_list_append (F.args_list_append_2 _ _) (PySem.list_append l its.toArray n u (by rw [List.size_toArray];omega)) ⟨e,?_⟩
 refine ⟨.non,_,I.lset (its':=its++[u]) hH e (by simp) (r.append (.cons ru .nil)) ?_,rfl,q⟩
 rw [List.length_append,List.length_singleton]
 omega
def rExtend:V→List V→Hp→VK→Prop:=fun x vs H Q=>∃l b xs zs,x=.ref l∧vs=[.ref b]∧H l=some (.lst xs)∧H b=some (.lst zs)∧xs.length+zs.length≤sizeLine∧Q .non (upd H l (.lst (xs++zs)))
theorem mt_extend:MtM X "list.extend" rExtend:=by
 intro pins s σ H x vs v us Q I rx rv h
 obtain ⟨l,b,xs,zs,rfl,rfl,hH,hB,hz,q⟩:=h
 cases rx
 obtain ⟨u,rfl,ru⟩:=rv.one
 cases ru
 obtain ⟨z,its,n,r,hl,e⟩:=I.lstM hH
 obtain ⟨z2,its2,n2,r2,hl2,e2⟩:=I.lstM hB
 have hsz:its.toArray.size+its2.toArray.size≤sizeLine:=by rw [List.size_toArray,List.size_toArray];omega
 have hlong:¬ (!its.toArray.isEmpty&&Builtin.List.listTooLong (its.toArray.size+its2.toArray.size))=true:=by
  rw [notLongL hsz,Bool.and_false]
  exact Bool.false_ne_true
 refine call_meets F.slot_list_extend ⟨_,e,rfl⟩ F.entry_list_extend (F.args_list_extend_2 _ _)
  (AutoSeq1.list_extend_list_list_0 l its.toArray n b its2.toArray n2 hlong (by rw [List.size_toArray];omega) (by omega)) ⟨e,e2,?_⟩
 refine ⟨.non,_,I.lset (its':=its++its2) hH e (by simp) (r.append r2) ?_,rfl,q⟩
 rw [List.length_append]
 omega
def rPop:V→List V→Hp→VK→Prop:=fun x vs H Q=>∃l xs y,x=.ref l∧vs=[]∧H l=some (.lst xs)∧xs[xs.length - 1]?=some y∧Q y (upd H l (.lst xs.dropLast))
theorem mt_pop:MtM X "list.pop" rPop:=by
 intro pins s σ H x vs v us Q I rx rv h
 obtain ⟨l,xs,y,rfl,rfl,hH,hy,q⟩:=h
 cases rx
 have hus:=rv.zero
 subst hus
 obtain ⟨z,its,n,r,hl,e⟩:=I.lstM hH
 obtain ⟨u,hu,ru⟩:=r.get hy
 have hy':its.toArray[its.toArray.size - 1]?=some u:=by
  show its.toArray[its.length - 1]?=some u
  rw [←Array.getElem?_toList,←hl]
  exact hu
 refine call_meets F.slot_list_pop ⟨_,e,rfl⟩ F.entry_list_pop (F.args_list_pop_1 _) (MeetsSeq.list_pop_last l its.toArray n u hy' (by rw [List.size_toArray];omega)) ⟨e,?_⟩
 refine ⟨y,_,I.lset (its':=its.dropLast) hH e ?_ r.dropLast ?_,ru,q⟩
 ·show its.toArray.eraseIdxIfInBounds (its.toArray.size - 1)=its.dropLast.toArray
  rw [List.size_toArray,List.eraseIdxIfInBounds_toArray,erase_last]
 ·rw [List.length_dropLast]
  omega
def rPopAt:V→List V→Hp→VK→Prop:=fun x vs H Q=>∃l xs i k y,x=.ref l∧vs=[.int i]∧H l=some (.lst xs)∧-(2^63)≤i∧i < 2^63∧seqIndex? i xs.length=some k∧xs[k]?=some y∧Q y (upd H l (.lst (xs.eraseIdx k)))
theorem mt_popAt:MtM X "list.pop" rPopAt:=by
 intro pins s σ H x vs v us Q I rx rv h
 obtain ⟨l,xs,i,k,y,rfl,rfl,hH,h1,h2,hk,hy,q⟩:=h
 cases rx
 obtain ⟨u,rfl,ru⟩:=rv.one
 obtain ⟨t,rfl⟩:=ru
 obtain ⟨z,its,n,r,hl,e⟩:=I.lstM hH
 obtain ⟨w,hw,rw'⟩:=r.get hy
 refine call_meets F.slot_list_pop ⟨_,e,rfl⟩ F.entry_list_pop (F.args_list_pop_2 _ _)
  (MeetsSeq.list_pop_at l its.toArray n i t k w (fitsIndex_both h1 h2) (by rw [List.size_toArray,←hl];exact hk) (by rw [←Array.getElem?_toList];exact hw) (by rw [List.size_toArray];omega)) ⟨e,?_⟩
 refine ⟨y,_,I.lset (its':=its.eraseIdx k) hH e ?_ (r.eraseIdx k) ?_,rw',q⟩
 ·show its.toArray.eraseIdxIfInBounds k=(its.eraseIdx k).toArray
  rw [List.eraseIdxIfInBounds_toArray]
 ·have:=len_erase xs k
  omega
def rCat:R2:=fun x y H Q=>∃l b xs zs,x=.ref l∧y=.ref b∧H l=some (.lst xs)∧H b=some (.lst zs)∧xs.length+zs.length≤sizeLine∧∀p,H p=none→Q (.ref p) (upd H p (.lst (xs++zs)))
theorem op_cat:OpR X (binaryOp .Add) rCat:=by
 intro pins s σ H x y v u Q I rx ry h
 obtain ⟨l,b,xs,zs,rfl,rfl,hH,hB,hz,q⟩:=h
 cases rx
 cases ry
 obtain ⟨z,its,n,r,hl,e⟩:=I.lstM hH
 obtain ⟨z2,its2,n2,r2,hl2,e2⟩:=I.lstM hB
 refine PySem.P.add_list e e2 ?_ (by rw [List.size_toArray,List.size_toArray];omega)
 have ea:its.toArray++its2.toArray=(its++its2).toArray:=by simp
 rw [ea]
 exact ⟨.ref _,_,I.lnew (t':=s.toks) (r.append r2) (by rw [List.length_append];omega),rfl,q _ I.fresh⟩
def rRep:R2:=fun x y H Q=>∃l k xs,x=.ref l∧y=.int k∧H l=some (.lst xs)∧-(2^63)≤k∧k < 2^63∧xs.length * k.toNat≤sizeLine ∧
 ∀p,H p=none→Q (.ref p) (upd H p (.lst (List.replicate k.toNat xs).flatten))
theorem len_rep {α:Type} (xs:List α) (k:Nat):(List.replicate k xs).flatten.length=k * xs.length:=by
 induction k with
 | zero=>simp
 | succ k ih=>rw [List.replicate_succ,List.flatten_cons,List.length_append,ih,Nat.succ_mul,Nat.add_comm]
theorem op_rep:OpR X (binaryOp .Mult) rRep:=by
 intro pins s σ H x y v u Q I rx ry h
 obtain ⟨l,k,xs,rfl,rfl,hH,h1,h2,hz,q⟩:=h
 cases rx
 obtain ⟨t,rfl⟩:=ry
 obtain ⟨z,its,n,r,hl,e⟩:=I.lstM hH
 have hlen:its.toArray.size * k.toNat≤sizeLine:=by rw [List.size_toArray,←hl];exact hz
 have hcap:¬ its.toArray.size * k.toNat > (2^63 - 1) / 8:=by
  have:(sizeLine:Nat)≤(2^63 - 1) / 8:=by decide
  omega
 have hfit:¬ (!Builtin.List.listFitsIndex k)=true:=by
  rw [fitsIndex_both h1 h2]
  exact Bool.false_ne_true
 have hlong:¬ Builtin.List.listTooLong (its.toArray.size * k.toNat)=true:=by
  rw [notLongL hlen]
  exact Bool.false_ne_true
 have hnew:List.foldl (fun x1 x2=>x1++x2) #[] (List.replicate (if its.toArray.isEmpty=true then 0 else k.toNat) its.toArray)=(List.replicate k.toNat its).flatten.toArray:=by
  have f0:∀m:Nat,List.foldl (fun x1 x2=>x1++x2) #[] (List.replicate m its.toArray)=(List.replicate m its).flatten.toArray:=fun m=>by
   have:=foldl_rep its m []
   rw [List.nil_append] at this
   exact this
  rw [f0]
  cases its with
  | nil=>simp
  | cons a r'=>rw [if_neg (by simp)]
 refine wpAny_binaryOp_repeat_ref (T:="list") (U:="int") (by decide) ⟨_,e,rfl⟩ (fun s'=>typeIs_int s' k t) noFill_list_mul F.fills_int_mul F.slot_int_rmul repeat_list F.slot_int_index.lookup
  (call_meets F.slot_int_rmul (typeIs_int s k t) F.entry_int_rmul (F.args_int_rmul_2 _ _) (int___rmul___int_list k t l its.toArray n)
   ⟨e,rfl,⟨_,e,rfl⟩,call_meets F.slot_list_mul ⟨_,e,rfl⟩ F.entry_list_mul (F.args_list_mul_2 _ _) (AutoListH.list___mul___list_int_3 l its.toArray n k t hfit hcap hlong) ⟨e,?_⟩⟩)
 rw [hnew]
 exact ⟨.ref _,_,I.lnew (t':=s.toks) (r.rep k.toNat) (by rw [len_rep,Nat.mul_comm];exact hz),rfl,q _ I.fresh⟩
end
section
variable {prog:Program} {w:World} {A:Around} {E:Value→Shared→Prop} {s:Shared}
end
section
variable {X:Cx}
end
end L2
namespace L2
open PySem PySem.Spec PyProof.Rows
theorem Vals.ints:∀{ns:List Int} {us:List Value},Vals (ns.map V.int) us→IntsAre us ns
 | [],us,h=>by
  rw [List.map_nil] at h
  cases h
  exact IntsAre.nil
 | n::ns,us,h=>by
  rw [List.map_cons] at h
  cases h with
  | cons r t =>
   obtain ⟨k,rfl⟩:=r
   exact IntsAre.cons n k (Vals.ints t)
theorem vals_of_ints:∀{us:List Value} {ns:List Int},IntsAre us ns→Vals (ns.map V.int) us
 | _,_,.nil=>by rw [List.map_nil];exact Paired.nil
 | _,_,.cons n t h=>by rw [List.map_cons];exact Paired.cons (show RelV (V.int n) (Value.int n t) from ⟨t,rfl⟩) (vals_of_ints h)
theorem Vals.ref1 {a:Addr} {us:List Value} (r:Vals [V.ref a] us):us=[Value.ref a]:=by
 cases r with
 | cons r t =>
  cases t
  cases r
  rfl
section
variable {prog:Program} {w:World} {A:Around} {E:Value→Shared→Prop} {s:Shared} {l:Addr} {its:List Value} {ns:List Int} {Q:Value→Shared→Prop}
theorem sum_raw (hh:A.handled=none) (hl:s.heap.IsList l its.toArray) (hi:IntsAre its ns)
  (h:∀h' tk t',(∀b o,s.heap.get? b=some o→h'.get? b=some o)→Q (.int ns.sum t') { s with heap:=h',toks:=tk }):wpAny (model prog w) A (call (.builtin "sum") [.ref l]) Q E s:=by
 obtain ⟨xs,e⟩:=hi.allInts.items
 have hn:numsOf (intItems xs).toList=ns:=by rw [←e];exact hi.numsOf
 rw [nums_intItems] at hn
 rw [e] at hl
 refine PySem.sum_intListG hh hl fun h' tk t' hk=>?_
 have:=h h' tk t' hk
 rw [preSum_eq,List.take_of_length_le (by simp),hn];exact this
theorem max_raw (hh:A.handled=none) (hl:s.heap.IsList l its.toArray) (hi:IntsAre its ns) (hne:0 < ns.length)
  (h:∀h' tk M t',(∀b o,s.heap.get? b=some o→h'.get? b=some o)→M∈ns→(∀a,a∈ns→a≤M)→Q (.int M t') { s with heap:=h',toks:=tk }):wpAny (model prog w) A (call (.builtin "max") [.ref l]) Q E s:=by
 obtain ⟨xs,e⟩:=hi.allInts.items
 have hn:numsOf (intItems xs).toList=ns:=by rw [←e];exact hi.numsOf
 rw [nums_intItems] at hn
 subst hn
 rw [e] at hl
 have hsz:0 < xs.size:=by simpa using hne
 refine PySem.max_intList hh hl hsz fun v h' tk hv hk=>?_
 obtain ⟨t,rfl⟩:=intItems_at hv
 obtain ⟨h1,h2⟩:=argBest_gt (numAt xs) (xs.size - 1)
 refine h h' tk _ t hk ?_ fun a ha=>?_
 ·rw [numAt_eq];exact PySem.getD_mem (by rw [List.length_map,Array.length_toList];omega)
 ·obtain ⟨j,hj,rfl⟩:=mem_getD ha
  rw [List.length_map,Array.length_toList] at hj
  rw [←numAt_eq];exact h2 j (by omega)
end
section
variable {X:Cx}
def rSum (K:PySem.W.Frag):List V→Hp→VK→Prop:=fun vs H Q=>∃(a:Addr) (ns:List Int),vs=[V.ref a]∧SqL K H a (ns.map V.int)∧Q (.int ns.sum) H
def rMax (K:PySem.W.Frag):List V→Hp→VK→Prop:=fun vs H Q=>∃(a:Addr) (ns:List Int),vs=[V.ref a]∧SqL K H a (ns.map V.int)∧0 < ns.length∧∀m,m∈ns→(∀y,y∈ns→y≤m)→Q (.int m) H
theorem cr_sum (hc:X.calm=true):CallR X (.builtin "sum") (rSum X.K):=by
 intro pins s σ H vs us Q I r h
 obtain ⟨a,ns,rfl,hs,q⟩:=h
 obtain ⟨its,rv,hl,_⟩:=I.list hs
 rw [Vals.ref1 r]
 exact sum_raw (I.ok.hd hc) hl.isList rv.ints fun h' tk t' hk=>⟨.int _,H,I.kept hk,⟨_,rfl⟩,q⟩
theorem cr_max (hc:X.calm=true):CallR X (.builtin "max") (rMax X.K):=by
 intro pins s σ H vs us Q I r h
 obtain ⟨a,ns,rfl,hs,hne,q⟩:=h
 obtain ⟨its,rv,hl,_⟩:=I.list hs
 rw [Vals.ref1 r]
 exact max_raw (I.ok.hd hc) hl.isList rv.ints hne fun h' tk m t' hk h1 h2=>⟨.int _,H,I.kept hk,⟨_,rfl⟩,q m h1 h2⟩
end
section
variable {X:Cx}
end
section
variable {X:Cx}
end
section
variable {X:Cx}
end
section
variable {X:Cx} {pins:List (Addr×Obj)} {σ:St} {H:Hp} {s:Shared}
end
section
variable {X:Cx}
end
end L2
namespace L2
open PySem PySem.Spec PyProof.Rows
abbrev CellAt (h:Heap) (c:Addr) (v:Option Value):Prop:=h.IsCell c v
def relS (scope sc:Scope):Scope :=
 { scope with names:=scope.names.map fun (n,k)=>if (k==.free&&sc.kind==.function&&sc.names.lookup n==some .cell) then (n,.cell) else (n,k) }
def cloFrom (cells:List (Str×Addr)):List (Str×NameKind)→List (Str×Addr)→List (Str×Addr)
 | [],acc=>acc
 | (n,k)::r,acc=>if k==.free then cloFrom cells r ((n,(cells.lookup n).getD 0)::acc) else cloFrom cells r acc
theorem closure_loop (env:Env) (f:Str×NameKind→List (Str×Addr)→Sem (ForInStep (List (Str×Addr))))
  (hf:∀n k c,f (n,k) c=if k==.free then (do let a ← cellOf env n;pure (.yield ((n,a)::c))) else pure (.yield c)) :
  ∀(names:List (Str×NameKind)) (acc:List (Str×Addr)),(∀y∈names,y.2=.free→∃c,env.cells.lookup y.1=some c)→forIn names acc f=pure (cloFrom env.cells names acc)
 | [],acc,_=>by rw [List.forIn_nil];rfl
 | (n,k)::r,acc,h=>by
  rw [List.forIn_cons,hf]
  have ih:=fun acc=>closure_loop env f hf r acc fun y hy=>h y (List.mem_cons_of_mem _ hy)
  unfold cloFrom
  by_cases hk:(k==NameKind.free)=true
  ·rw [if_pos hk,if_pos hk]
   obtain ⟨c,hc⟩:=h (n,k) List.mem_cons_self (by simpa using hk)
   have e:cellOf env n=pure c:=by unfold cellOf;rw [hc]
   rw [e]
   have e2:(env.cells.lookup n).getD 0=c:=by rw [hc];rfl
   rw [e2]
   exact ih _
  ·rw [if_neg hk,if_neg hk]
   exact ih _
theorem closure_ok {scope:Scope} {env:Env} (h:∀y∈scope.names,y.2=.free→∃c,env.cells.lookup y.1=some c):closureFor scope env=pure (cloFrom env.cells scope.names []):=by
 simp only [closureFor]
 rw [closure_loop env _ (fun n k c=>rfl) scope.names [] h]
 rfl
theorem mem_lookup {α:Type}:∀{l:List (Str×α)} {n:Str} {c:α},(n,c)∈l→∃c',l.lookup n=some c'
 | (k,v)::r,n,c,h=>by
  rw [List.lookup_cons]
  cases hb:n==k with
  | true=>exact ⟨_,rfl⟩
  | false =>
   rcases List.mem_cons.mp h with e | h
   ·cases e;simp at hb
   ·exact mem_lookup h
theorem cloFrom_mem {cells:List (Str×Addr)}:∀{names:List (Str×NameKind)} {acc:List (Str×Addr)} {n:Str} {c:Addr},(n,c)∈cloFrom cells names acc→(n,c)∈acc∨((n,.free)∈names∧c=(cells.lookup n).getD 0)
 | [],_,_,_,h=>.inl h
 | (m,k)::r,acc,n,c,h=>by
  unfold cloFrom at h
  split at h
  ·rename_i hk
   have hk:k=.free:=by simpa using hk
   rcases cloFrom_mem h with h | ⟨h1,h2⟩
   ·rcases List.mem_cons.mp h with e | h
    ·cases e;exact .inr ⟨hk ▸ List.mem_cons_self,rfl⟩
    ·exact .inl h
   ·exact .inr ⟨List.mem_cons_of_mem _ h1,h2⟩
  ·rcases cloFrom_mem h with h | ⟨h1,h2⟩
   ·exact .inl h
   ·exact .inr ⟨List.mem_cons_of_mem _ h1,h2⟩
theorem cloFrom_acc {cells:List (Str×Addr)}:∀{names:List (Str×NameKind)} {acc:List (Str×Addr)} {p:Str×Addr},p∈acc→p∈cloFrom cells names acc
 | [],_,_,h=>h
 | (m,k)::r,acc,p,h=>by
  unfold cloFrom
  split
  ·exact cloFrom_acc (List.mem_cons_of_mem _ h)
  ·exact cloFrom_acc h
theorem cloFrom_has {cells:List (Str×Addr)}:∀{names:List (Str×NameKind)} {acc:List (Str×Addr)} {n:Str},(n,.free)∈names→(n,(cells.lookup n).getD 0)∈cloFrom cells names acc
 | (m,k)::r,acc,n,h=>by
  unfold cloFrom
  rcases List.mem_cons.mp h with e | h
  ·cases e
   exact cloFrom_acc List.mem_cons_self
  ·split
   ·exact cloFrom_has h
   ·exact cloFrom_has h
theorem cells_mem:∀{names:List (Str×NameKind)} {h:Heap} {acc:List (Str×Addr)} {x:Str} {c:Addr},(x,c)∈cellsFrom h.objs.size names acc →
  (x,c)∈acc∨((x,.cell)∈names∧h.objs.size≤c∧CellAt (pushCells h names) c none)
 | [],_,_,_,_,h=>.inl h
 | (n,k)::r,h,acc,x,c,hm=>by
  unfold cellsFrom at hm
  unfold pushCells
  split at hm
  ·rename_i hk
   rw [if_pos hk]
   have hk:k=.cell:=by simpa using hk
   rw [←Heap.size_push h { cls:=.type "cell",data:=.cell none }] at hm
   rcases cells_mem hm with hm | ⟨h1,h2,h3⟩
   ·rcases List.mem_cons.mp hm with e | hm
    ·cases e
     exact .inr ⟨hk ▸ List.mem_cons_self,Nat.le_refl _,_,pushCells_keeps r _ _ _ (Heap.get?_push_size _ rfl),rfl⟩
    ·exact .inl hm
   ·rw [Heap.size_push] at h2
    exact .inr ⟨List.mem_cons_of_mem _ h1,Nat.le_of_succ_le h2,h3⟩
  ·rename_i hk
   rw [if_neg hk]
   rcases cells_mem hm with hm | ⟨h1,h2,h3⟩
   ·exact .inl hm
   ·exact .inr ⟨List.mem_cons_of_mem _ h1,h2,h3⟩
theorem cells_acc:∀{names:List (Str×NameKind)} {n:Nat} {acc:List (Str×Addr)} {p:Str×Addr},p∈acc→p∈cellsFrom n names acc
 | [],_,_,_,h=>h
 | (m,k)::r,n,acc,p,h=>by
  unfold cellsFrom
  split
  ·exact cells_acc (List.mem_cons_of_mem _ h)
  ·exact cells_acc h
theorem cells_has:∀{names:List (Str×NameKind)} {n:Nat} {acc:List (Str×Addr)} {x:Str},(x,.cell)∈names→∃c,(x,c)∈cellsFrom n names acc
 | (m,k)::r,n,acc,x,h=>by
  unfold cellsFrom
  rcases List.mem_cons.mp h with e | h
  ·cases e
   exact ⟨n,cells_acc List.mem_cons_self⟩
  ·split
   ·exact cells_has h
   ·exact cells_has h
theorem cells_inj:∀{names:List (Str×NameKind)} {h:Heap} {acc:List (Str×Addr)} {x y:Str} {c:Addr},(∀p∈acc,p.2 < h.objs.size)→(∀x y c,(x,c)∈acc→(y,c)∈acc→x=y) →
  (x,c)∈cellsFrom h.objs.size names acc→(y,c)∈cellsFrom h.objs.size names acc→x=y
 | [],_,_,_,_,_,_,hi,h1,h2=>hi _ _ _ h1 h2
 | (n,k)::r,h,acc,x,y,c,hl,hi,h1,h2=>by
  unfold cellsFrom at h1 h2
  split at h1
  ·rename_i hk
   rw [if_pos hk] at h2
   rw [←Heap.size_push h { cls:=.type "cell",data:=.cell none }] at h1 h2
   refine cells_inj (h:=h.push _) (fun p hp=>?_) (fun x y c a b=>?_) h1 h2
   ·rw [Heap.size_push]
    rcases List.mem_cons.mp hp with rfl | hp
    ·exact Nat.lt_succ_self _
    ·exact Nat.lt_succ_of_lt (hl p hp)
   ·rcases List.mem_cons.mp a with e | a <;> rcases List.mem_cons.mp b with e' | b
    ·cases e;cases e';rfl
    ·cases e;exact absurd (hl _ b) (Nat.lt_irrefl _)
    ·cases e';exact absurd (hl _ a) (Nat.lt_irrefl _)
    ·exact hi _ _ _ a b
  ·rename_i hk
   rw [if_neg hk] at h2
   exact cells_inj hl hi h1 h2
theorem newEnv_comp {M:Model} {A:Around} {E:Value→Shared→Prop} {s:Shared} {scope:Scope} {globals:Addr} {closure:List (Str×Addr)} {qual:Str} {func:Option Addr} {code:Value} {around:Env} {builtins:Addr} {Q:Env→Shared→Prop}
  (h:Q (newEnv scope s.heap.objs.size globals (cellsFrom (s.heap.objs.size+1) scope.names closure) qual func code (some around) builtins)
   { s with heap:=pushCells (s.heap.push { cls:=.type "dict",data:=.dict #[] }) scope.names }) :
  wpAny M A (newFunctionEnv scope globals closure [] qual func code (some around) builtins) Q E s:=by
 simp only [newFunctionEnv,Option.isSome_some,if_true]
 refine wpAny_bind (wpAny_alloc ?_)
 refine wpAny_bind (wpAny_layCells _ (fun n k c=>rfl) scope.names closure _ _ ?_)
 rw [show ({ s with heap:=s.heap.push { cls:=.type "dict",data:=.dict #[] } }:Shared).heap.objs.size=s.heap.objs.size+1 from Heap.size_push ..]
 rw [List.forIn_nil]
 exact wpAny_bind (wpAny_pure (wpAny_pure h))
theorem lookup_relS {sc:Scope}:∀{names:List (Str×NameKind)} {x:Str} {k:NameKind},
  (names.map fun (n,k)=>if (k==NameKind.free&&sc.kind==.function&&sc.names.lookup n==some .cell) then (n,NameKind.cell) else (n,k)).lookup x=some k →
  ∃k',names.lookup x=some k'∧(k=k'∨(k'=.free∧k=.cell))
 | [],_,_,h=>by simp at h
 | (n,k₀)::r,x,k,h=>by
  have ih:=@lookup_relS sc r x k
  have h':List.lookup x ((if (k₀==NameKind.free&&sc.kind==.function&&sc.names.lookup n==some .cell)=true then (n,NameKind.cell) else (n,k₀))::(r.map _))=some k:=h
  cases hx:x==n with
  | true =>
   simp only [List.lookup_cons,hx]
   by_cases hc:(k₀==NameKind.free&&sc.kind==.function&&sc.names.lookup n==some .cell)=true
   ·rw [if_pos hc] at h'
    simp only [List.lookup_cons,hx] at h'
    cases h'
    simp only [Bool.and_eq_true,beq_iff_eq] at hc
    exact ⟨k₀,rfl,.inr ⟨hc.1.1,rfl⟩⟩
   ·rw [if_neg hc] at h'
    simp only [List.lookup_cons,hx] at h'
    cases h'
    exact ⟨_,rfl,.inl rfl⟩
  | false =>
   simp only [List.lookup_cons,hx]
   by_cases hc:(k₀==NameKind.free&&sc.kind==.function&&sc.names.lookup n==some .cell)=true
   ·rw [if_pos hc] at h'
    simp only [List.lookup_cons,hx] at h'
    exact ih h'
   ·rw [if_neg hc] at h'
    simp only [List.lookup_cons,hx] at h'
    exact ih h'
structure BlkOk (N:List Str) (sc scope:Scope) (own:List (Str×Nat)):Prop where
 kind:scope.kind=.function
 uniq:∀y∈scope.names,scope.names.lookup y.1=some y.2
 ix:∀p∈own,N[p.2]?=some p.1
 free:∀y∈scope.names,y.2=.free→sc.names.lookup y.1=some .cell∨sc.names.lookup y.1=some .free
 own:∀y∈scope.names,y.2=.local∨y.2=.cell→y.1∈own.map (·.1)∨y.1 ∉ N
def wipe (σ:St):List Nat→St
 | []=>σ
 | v::vs=>(wipe σ vs).set v none
theorem wipe_length (σ:St):∀vs:List Nat,(wipe σ vs).length=σ.length
 | []=>rfl
 | v::vs=>by unfold wipe;rw [List.length_set,wipe_length σ vs]
theorem wipe_some {σ:St} {i:Nat} {x:V}:∀{vs:List Nat},(wipe σ vs)[i]?=some (some x)→σ[i]?=some (some x)∧i ∉ vs
 | [],h=>⟨h,by simp⟩
 | v::vs,h=>by
  unfold wipe at h
  by_cases hi:v=i
  ·subst hi
   by_cases hv:v < (wipe σ vs).length
   ·rw [List.getElem?_set_self hv] at h;cases h
   ·rw [List.getElem?_eq_none (by simpa using hv)] at h;cases h
  ·rw [List.getElem?_set_ne hi] at h
   obtain ⟨h1,h2⟩:=wipe_some h
   exact ⟨h1,by simp only [List.mem_cons,not_or];exact ⟨fun e=>hi e.symm,h2⟩⟩
abbrev Cx.blk (X:Cx) (s:Shared) (H:Hp) (scope:Scope) (cenv:Env) (fp:List Addr):Cx:={ X with s_0:=s,H_0:=H,env:=cenv,outer:=X.stack,ex:=fp,fn:=fun x=>scope.names.lookup x==some .cell,pn:=[],xe:=fun _ _=>False }
section
variable {X:Cx} {pins:List (Addr×Obj)} {σ:St} {H:Hp} {s:Shared}
theorem block_start {scope:Scope} {own:List (Str×Nat)} {fp:List Addr} (I:Inv X pins σ H s) (ok:BlkOk X.N X.env.scope scope own) (hN:X.N.Nodup) (hfp:∀b∈fp,FpOk X pins H b∧b < s.heap.objs.size) :
  Inv (X.blk s H scope (compEnvC scope (cellsFrom (s.heap.objs.size+1) scope.names (cloFrom X.env.cells scope.names [])) s.heap.objs.size X.env) fp) [] (wipe σ (own.map (·.2))) H { s with heap:=pushCells (s.heap.push { cls:=.type "dict",data:=.dict #[] }) scope.names }:=by
 have hfree:∀y∈scope.names,y.2=.free→∃c,X.env.cells.lookup y.1=some c:=fun y hy e=>by
  rcases ok.free y hy e with k | k
  ·exact I.ok.has _ (.inl k)
  ·exact I.ok.has _ (.inr k)
 generalize hcenv:compEnvC scope (cellsFrom (s.heap.objs.size+1) scope.names (cloFrom X.env.cells scope.names [])) s.heap.objs.size X.env=cenv
 have kp:∀b o,s.heap.get? b=some o→(pushCells (s.heap.push { cls:=.type "dict",data:=.dict #[] }) scope.names).get? b=some o:=fun b o e=>pushCells_keeps _ _ _ _ (Heap.get?_push_of_some _ e)
 have hL:cenv.locals=s.heap.objs.size:=by rw [←hcenv];rfl
 have hcl:cenv.cells=cellsFrom (s.heap.objs.size+1) scope.names (cloFrom X.env.cells scope.names []):=by rw [←hcenv];rfl
 have hsc:cenv.scope=relS scope X.env.scope:=by rw [←hcenv];rfl
 rw [←Heap.size_push s.heap { cls:=.type "dict",data:=.dict #[] }] at hcl
 have cm:∀{y c},(y,c)∈cloFrom X.env.cells scope.names []→X.env.cells.lookup y=some c∧c < s.heap.objs.size:=fun {y c} hm=>by
  rcases cloFrom_mem hm with hm | ⟨h1,rfl⟩
  ·cases hm
  ·obtain ⟨c,hc⟩:=hfree _ h1 rfl
   rw [hc]
   obtain ⟨w,z⟩:=I.cell _ _ hc
   exact ⟨rfl,z.lt⟩
 have mem:∀{y c},cenv.cells.lookup y=some c→(X.env.cells.lookup y=some c∧c < s.heap.objs.size)∨(s.heap.objs.size+1≤c∧CellAt (pushCells (s.heap.push { cls:=.type "dict",data:=.dict #[] }) scope.names) c none):=fun {y c} e=>by
  rw [hcl] at e
  rcases cells_mem (PySem.mem_of_lookup e) with hm | ⟨_,h2,h3⟩
  ·exact .inl (cm hm)
  ·rw [Heap.size_push] at h2;exact .inr ⟨h2,h3⟩
 have look:∀{y},scope.names.lookup y=some .free→∃c,cenv.cells.lookup y=some c∧X.env.cells.lookup y=some c:=fun {y} hl=>by
  have hy:(y,NameKind.free)∈scope.names:=PySem.mem_of_lookup hl
  obtain ⟨c',e'⟩:=mem_lookup (cells_acc (names:=scope.names) (n:=(s.heap.push { cls:=.type "dict",data:=.dict #[] }).objs.size) (cloFrom_has (cells:=X.env.cells) (acc:=[]) hy))
  rw [←hcl] at e'
  refine ⟨c',e',?_⟩
  rw [hcl] at e'
  rcases cells_mem (PySem.mem_of_lookup e') with hm | ⟨h1,_,_⟩
  ·exact (cm hm).1
  ·have:=ok.uniq _ h1
   rw [hl] at this;cases this
 have okB:(X.blk s H scope cenv fp).Ok:=by
  refine ⟨I.ok.mod,by show cenv.scope.kind=_;rw [hsc];exact ok.kind,by show cenv.globals=_;rw [←hcenv];exact I.ok.glob,by show cenv.builtins=_;rw [←hcenv];exact I.ok.blt,by show s.heap.objs.size≤cenv.locals;rw [hL];exact Nat.le_refl _,
   fun y z c e1 e2=>?_,fun y hy=>?_,fun y c z e=>?_,I.ok.hd,I.ok.frames,.inl rfl,fun b hb=>⟨?_,fun y c e z=>?_⟩,I.bs,Nat.le_trans I.ok.bsz I.sz,fun b o e hb=>?_,fun b hb z=>?_,I.stack,I.stkFree⟩
  ·have e1:cenv.cells.lookup y=some c:=e1
   have e2:cenv.cells.lookup z=some c:=e2
   rw [hcl] at e1 e2
   refine cells_inj (fun p hp=>?_) (fun y z c a b=>I.ok.inj y z c (cm a).1 (cm b).1) (PySem.mem_of_lookup e1) (PySem.mem_of_lookup e2)
   rw [Heap.size_push]
   exact Nat.lt_succ_of_lt (cm (y:=p.1) (c:=p.2) hp).2
  ·show ∃c,cenv.cells.lookup y=some c
   have key:∀k,cenv.kindOf y=some k→(k=.cell∨k=.free)→∃c,cenv.cells.lookup y=some c:=fun k hk hk'=>by
    unfold Env.kindOf at hk
    rw [hsc] at hk
    obtain ⟨k',e,r⟩:=lookup_relS hk
    have:k'=.cell∨k'=.free:=by
     rcases r with rfl | ⟨rfl,_⟩
     ·exact hk'
     ·exact .inr rfl
    rcases this with rfl | rfl
    ·obtain ⟨c,hm⟩:=cells_has (n:=(s.heap.push { cls:=.type "dict",data:=.dict #[] }).objs.size) (acc:=cloFrom X.env.cells scope.names []) (PySem.mem_of_lookup e)
     obtain ⟨c',e'⟩:=mem_lookup hm
     exact ⟨c',by rw [hcl];exact e'⟩
    ·obtain ⟨c,h1,_⟩:=look e
     exact ⟨c,h1⟩
   rcases hy with hy | hy
   ·exact key _ hy (.inl rfl)
   ·exact key _ hy (.inr rfl)
  ·have z:(scope.names.lookup y==some NameKind.cell)=true:=z
   have z:scope.names.lookup y=some .cell:=by simpa using z
   have e:cenv.cells.lookup y=some c:=e
   rw [hcl] at e
   rcases cells_mem (PySem.mem_of_lookup e) with hm | ⟨_,h2,_⟩
   ·rcases cloFrom_mem hm with hm | ⟨h1,_⟩
    ·cases hm
    ·have q:=ok.uniq _ h1
     rw [z] at q;cases q
   ·rw [Heap.size_push] at h2
    exact Nat.le_of_succ_le h2
  ·show b≠cenv.locals
   rw [hL];exact Nat.ne_of_lt (hfp b hb).2
  ·have e:cenv.cells.lookup y=some c:=e
   rcases mem e with ⟨h1,_⟩ | ⟨h1,_⟩
   ·exact (hfp b hb).1.2.2.2.2.1 y c h1 z
   ·have h2:s.heap.objs.size+1≤b:=by rw [←z];exact h1
    exact absurd (Nat.lt_of_lt_of_le (hfp b hb).2 (Nat.le_of_succ_le h2)) (Nat.lt_irrefl _)
  ·rcases (hfp b hb).1.2.2.2.1 with z | z
   ·exact I.ok.noex b o e z
   ·exact absurd (Nat.lt_of_lt_of_le (Heap.lt_size e) (Nat.le_trans I.ok.bsz z)) (Nat.lt_irrefl _)
  ·rcases List.mem_cons.mp (I.stkSub b z) with z | z
   ·exact (hfp b hb).1.2.1 z
   ·exact (hfp b hb).1.2.2.1 z
 refine ⟨okB,rfl,I.bare,Un.kept kp,⟨fun _=>none,?_,fun i y av e1 e2 e3=>?_⟩,fun y c e=>?_,?_,fun y c e=>?_,fun p hp=>?_,I.hok.kept kp,by rw [wipe_length];exact I.len⟩
 ·show Heap.Ns _ cenv.locals _
  rw [hL]
  exact Heap.Ns.keeps (Heap.Ns.new ..) fun b o e=>pushCells_keeps _ _ _ _ e
 ·obtain ⟨e2,hne⟩:=wipe_some e2
  have hfr:scope.names.lookup y=some .free∧(cenv.kindOf y=some .cell∨cenv.kindOf y=some .free):=by
   have key:∀k,cenv.scope.names.lookup y=some k→k=.local∨k=.cell∨k=.free→scope.names.lookup y=some .free∧(cenv.kindOf y=some .cell∨cenv.kindOf y=some .free):=fun k hk hk'=>by
    have hk0:=hk
    rw [hsc] at hk
    obtain ⟨k',e,r⟩:=lookup_relS hk
    have no:¬ (k'=.local∨k'=.cell):=fun hh=>by
     rcases ok.own _ (PySem.mem_of_lookup e) hh with e' | e'
     ·obtain ⟨p,hp,hpy⟩:=List.mem_map.mp e'
      have e3:=ok.ix p hp
      have:p.1=y:=hpy
      rw [this] at e3
      exact hne (List.mem_map.mpr ⟨p,hp,nodup_ix hN e3 e1⟩)
     ·exact e' (List.mem_of_getElem? e1)
    rcases r with rfl | ⟨rfl,rfl⟩
    ·rcases hk' with rfl | rfl | rfl
     ·exact absurd (.inl rfl) no
     ·exact absurd (.inr rfl) no
     ·exact ⟨e,.inr hk0⟩
    ·exact ⟨e,.inl hk0⟩
   have e3:Vis cenv.scope y:=e3
   rcases e3 with e3 | e3 | e3
   ·exact key _ e3 (.inl rfl)
   ·exact key _ e3 (.inr (.inl rfl))
   ·exact key _ e3 (.inr (.inr rfl))
  obtain ⟨m,hn,hl⟩:=I.loc
  have hvis:Vis X.env.scope y:=(ok.free _ (PySem.mem_of_lookup hfr.1) rfl).elim (fun k=>.inr (.inl k)) (fun k=>.inr (.inr k))
  obtain ⟨w,r,q⟩:=hl i y av e1 e2 hvis
  refine ⟨w,r,.inr ⟨hfr.2,?_⟩⟩
  obtain ⟨c,h1,h2⟩:=look hfr.1
  rcases q with ⟨k,_⟩ | ⟨_,c',e',z⟩
  ·have k:X.env.scope.names.lookup y=some .local:=k
   rcases ok.free _ (PySem.mem_of_lookup hfr.1) rfl with k' | k' <;> rw [show X.env.scope.names.lookup y=_ from k'] at k <;> cases k
  ·rw [h2] at e';cases e'
   exact ⟨c,h1,z.keeps kp⟩
 ·have e:cenv.cells.lookup y=some c:=e
  rcases mem e with ⟨h1,_⟩ | ⟨_,z⟩
  ·obtain ⟨w,z⟩:=I.cell y c h1
   exact ⟨w,z.keeps kp⟩
  ·exact ⟨_,z⟩
 ·show H cenv.locals=none
  rw [hL];exact I.hok.fresh (Nat.le_refl _)
 ·have e:cenv.cells.lookup y=some c:=e
  rcases mem e with ⟨h1,_⟩ | ⟨h1,_⟩
  ·exact I.freeC y c h1
  ·exact I.hok.fresh (Nat.le_of_succ_le h1)
 ·exact absurd (show p∈([]:List (Addr×Obj))++[] from hp) (by simp)
theorem app_ok {E:Value→Shared→Prop} {D:Addr} {xs:List V} {y:V} {v:Value} {Q:Value→Shared→Prop} (I:Inv X pins σ H s) (hD:H D=some (.lst xs)) (hz:xs.length < sizeLine) (r:RelV y v)
  (h:∀s',Inv X pins σ (upd H D (.lst (xs++[y]))) s'→Q .none s'):wpAny (model X.prog X.w) X.A (call (.builtin "list.append") [.ref D,v]) Q E s:=by
 obtain ⟨hz',its,n,ri,e⟩:=I.hok D _ hD
 have hl:=ri.length
 refine append_at (hsz:=by rw [List.size_toArray];omega) e fun h' sb ho'=>?_
 refine h { s with heap:=h' } (I.write (t':=s.toks) (by rw [hD];trivial) (.inl rfl) (fun b u hb q=>(sb.2 b hb).trans q) ⟨_,ho'⟩ ⟨by rw [List.length_append];exact hz,its++[v],n+1,ri.append (.cons r .nil),?_⟩)
 rw [ho']
 simp
def PTs (X:Cx) (ifs:List Expr) (t:TT):Prop :=
 ∀(pins:List (Addr×Obj)) (s:Shared) (σ:St) (H:Hp) (Q:Bool→Hp→Prop),Inv X pins σ H s→t σ H Q →
  wpAny (model X.prog X.w) X.A (forIn ifs true fun c r=>if r=true then do let ok ← isTrue c X.env (eval c X.env);pure (ForInStep.yield ok) else pure (ForInStep.yield r)) (TP X pins σ Q) X.xe s
def tYes:TT:=fun _ H Q=>Q true H
theorem pts_nil:PTs X [] tYes:=fun _ _ _ H _ I h=>wpAny_tests_nil ⟨H,I,h⟩
theorem pts_one {c:Expr} {t:TT} (h:PT X c t):PTs X [c] t:=fun pins s σ H Q I hw=>wpAny_tests_one (h pins s σ H Q I hw)
end
theorem thnF {α:Type} {t:Sem α} {Q Q':α→Shared→Prop} {M:Model} {A:Around} {E:Value→Shared→Prop} {s:Shared} (h:wpAny M A t Q (fun _ _=>False) s) (hQ:∀a s,Q a s→Q' a s):wpAny M A t Q' E s:=wpAny_mono h hQ fun _ _ z=>False.elim z
theorem compLoop_any {prog:Program} {w:World} {A:Around} {R:Result→Shared→Prop} {s:Shared} {elt target iter:Expr} {ifs:List Expr} {scope:Scope} {pos:Pos} {it acc:Value} {env:Env} (I:Nat→Shared→Prop)
  (turn:∀n s,I n s→wpAny (model prog w) A (pyNext it) (fun r s₁=>match r with
   | none=>R (.ok .next) s₁
   | some v=>wpAny (model prog w) A (letOwnedTupleGo target it v) (fun _ s₁'=>wpAny (model prog w) A (assign target env v) (fun _ s₂ =>
     wpAny (model prog w) A (forIn ifs true fun c r=>if r=true then do let ok ← isTrue c env (eval c env);pure (ForInStep.yield ok) else pure (ForInStep.yield r)) (fun ok s₃ =>
      if ok=true then wpAny (model prog w) A (eval elt env) (fun x s₄ =>
       wpAny (model prog w) A (call (.builtin "list.append") [acc,x]) (fun _ s₅=>∃m,m < n∧I m s₅) (notedBy (model prog w) A env fun e s'=>R (.error e) s') s₄) (notedBy (model prog w) A env fun e s'=>R (.error e) s') s₃
      else ∃m,m < n∧I m s₃) (notedBy (model prog w) A env fun e s'=>R (.error e) s') s₂) (notedBy (model prog w) A env fun e s'=>R (.error e) s') s₁') (notedBy (model prog w) A env fun e s'=>R (.error e) s') s₁) (notedBy (model prog w) A env fun e s'=>R (.error e) s') s)
  (n:Nat) (h:I n s) :
  codeAny (model prog w) A (.compLoop (.ListComp elt [⟨target,iter,ifs,0⟩] scope pos) 0 it acc env) R s:=by
 refine codeAny_loop rfl I (fun n s hI=>?_) n h
 show wpAny _ A ((compTurn (.ListComp elt [⟨target,iter,ifs,0⟩] scope pos) 0 it acc env).onRaise (fun x=>do noteFrame x env;theTreesLotGoes x)) _ _ s
 refine wpAny_noted ?_
 rw [compTurn_list]
 refine wpAny_bind (wpAny_standAt (wpAny_bind (wpAny_mono (turn n s hI) (fun r s₁ h₁=>?_) fun _ _ h'=>h')))
 cases r with
 | none=>exact wpAny_pure h₁
 | some v =>
  refine wpAny_bind (wpAny_mono h₁ (fun _ s₁' h₁'=>?_) fun _ _ h'=>h')
  refine wpAny_bind (wpAny_mono h₁' (fun _ s₂ h₂=>wpAny_bind (wpAny_mono h₂ (fun ok s₃ h₃=>?_) fun _ _ h'=>h')) fun _ _ h'=>h')
  cases ok with
  | false=>exact wpAny_pure ⟨rfl,h₃⟩
  | true =>
   exact wpAny_bind (wpAny_bind (wpAny_mono h₃ (fun x s₄ h₄=>wpAny_bind (wpAny_mono h₄ (fun _ s₅ h₅=>wpAny_pure (wpAny_pure ⟨rfl,h₅⟩)) fun _ _ h'=>h')) fun _ _ h'=>h'))
section
variable {X:Cx}
def tLc (wi:TI) (g:TG) (tt:TT) (te:TE) (vs:List Nat):TE:=fun σ H Q=>wi σ H fun J H1=>∀D,H1 D=none→∃W:Nat→Nat→Hp→Prop,(∃m,W 0 m (upd H1 D (.lst [])))∧∀i m H,W i m H →
 (J.stop i H∧Q (.ref D) H)∨(J.go i H∧∃Nx:Hp→Prop,(∀H',Nx H'→∃m',m' < m∧W (i+1) m' H')∧∀x H',J.yld i H x H'→g x (wipe σ vs) H' fun σ2 H2=>wipe σ2 vs=wipe σ vs∧tt σ2 H2 fun b H3 =>
  if b=true then te σ2 H3 fun y H4=>∃acc,H4 D=some (.lst acc)∧acc.length < sizeLine∧Nx (upd H4 D (.lst (acc++[y]))) else Nx H3)
theorem lc_core {pins:List (Addr×Obj)} {s:Shared} {σ:St} {H:Hp} {Q:VK} {elt tg iter:Expr} {ifs:List Expr} {scope:Scope} {own:List (Str×Nat)} {pos pos':Pos} {wi:TI} {g:TG} {tt:TT} {te:TE} {use:Option (Value→Sem Unit)} {Qf:Value→Shared→Prop}
  (hc:X.calm=true) (hN:X.N.Nodup) (I:Inv X pins σ H s) (hi:PI X tg iter wi) (ok:BlkOk X.N X.env.scope scope own)
  (hg:∀(s:Shared) (H:Hp) (C:Addr) (cl:List (Str×Addr)) (fp:List Addr),PG (X.blk s H scope (compEnvC scope cl C X.env) fp) tg g) (ht:∀(s:Shared) (H:Hp) (C:Addr) (cl:List (Str×Addr)) (fp:List Addr),PTs (X.blk s H scope (compEnvC scope cl C X.env) fp) ifs tt)
  (he:∀(s:Shared) (H:Hp) (C:Addr) (cl:List (Str×Addr)) (fp:List Addr),PE (X.blk s H scope (compEnvC scope cl C X.env) fp) elt te) (hs:∀x,foldedSetIterable iter X.env x=pure x)
  (h:tLc wi g tt te (own.map (·.2)) σ H Q)
  (hRR:∀D C s' m H',Inv X pins σ H' s'→Q (.ref D) H'→s'.heap.Ns C m→FpOk X pins H' C→compPost (model X.prog X.w) X.A X.xe use Qf (.ref D) C (.ok .next) s') :
  wpAny (model X.prog X.w) X.A (comprehension (.ListComp elt [⟨tg,iter,ifs,0⟩] scope pos) scope X.env pos' (newList []) false (eval iter X.env) use) Qf X.xe s:=by
 have hfree:∀y∈scope.names,y.2=.free→∃c,X.env.cells.lookup y.1=some c:=fun y hy e=>by
  rcases ok.free y hy e with k | k
  ·exact I.ok.has _ (.inl k)
  ·exact I.ok.has _ (.inr k)
 refine wpAny_comprehension_free (use:=use) rfl hs (closure_ok hfree) ok.kind (fun y hy e=>by rw [ok.uniq y hy,e])
  (thn (hi pins s σ H _ I h) fun xv s1 hx=>thn hx fun itv s2 h2=>?_)
 obtain ⟨it,fp,tn,J,H2,e,I2,T,st2,f2,q⟩:=h2
 subst e
 refine wpAny_newObj_type (newEnv_comp ?_) (by show 0≤sizeLine;decide)
 generalize hD:s2.heap.objs.size=D
 have hDn:H2 D=none:=I2.hok.fresh (Nat.le_of_eq hD)
 obtain ⟨W,⟨m0,w0⟩,turn⟩:=q D hDn
 generalize hs3:({ s2 with heap:=s2.heap.push { cls:=.type "list",data:=.seq ([]:List Value).toArray } }:Shared)=s3
 have I3:Inv X pins σ (upd H2 D (.lst [])) s3:=by
  rw [←hs3]
  refine I2.laid (t':=s2.toks) (fun b o e=>Heap.get?_push_of_some _ e) (Nat.le_of_eq hD) ⟨Nat.zero_le _,[],0,.nil,?_⟩
  rw [←hD]
  exact Heap.get?_push_size _ rfl
 have h3:s3.heap=s2.heap.push { cls:=.type "list",data:=.seq ([]:List Value).toArray }:=by rw [←hs3]
 have sz:∀b∈fp,b < s2.heap.objs.size:=fun b hb=>by
  obtain ⟨o,e,_⟩:=T.obj _ _ st2 b hb
  exact Heap.lt_size e
 have f3:∀b∈fp,FpOk X pins (upd H2 D (.lst [])) b∧b < s3.heap.objs.size:=fun b hb=>by
  have hlt:=sz b hb
  refine ⟨⟨?_,(f2 b hb).2⟩,by rw [h3,Heap.size_push];exact Nat.lt_succ_of_lt hlt⟩
  rw [upd_ne (by rw [←hD];exact Nat.ne_of_lt hlt)]
  exact (f2 b hb).1
 have st3:tn 0 s3.heap:=T.keep _ _ _ st2 fun b _ o e=>by rw [h3];exact Heap.get?_push_of_some _ e
 have I4:=block_start I3 ok hN f3
 have pg:=hg s3 (upd H2 D (.lst [])) s3.heap.objs.size (cellsFrom (s3.heap.objs.size+1) scope.names (cloFrom X.env.cells scope.names [])) fp
 have pt:=ht s3 (upd H2 D (.lst [])) s3.heap.objs.size (cellsFrom (s3.heap.objs.size+1) scope.names (cloFrom X.env.cells scope.names [])) fp
 have pe:=he s3 (upd H2 D (.lst [])) s3.heap.objs.size (cellsFrom (s3.heap.objs.size+1) scope.names (cloFrom X.env.cells scope.names [])) fp
 show codeAny _ _ (.compStart (.ListComp elt [⟨tg,iter,ifs,0⟩] scope pos) 0 (.ref it) (.ref D) (compEnvC scope (cellsFrom (s3.heap.objs.size+1) scope.names (cloFrom X.env.cells scope.names [])) s3.heap.objs.size X.env)) (compPost (model X.prog X.w) X.A X.xe use Qf (.ref D) s3.heap.objs.size) { s3 with heap:=pushCells (s3.heap.push { cls:=.type "dict",data:=.dict #[] }) scope.names }
 have nfp:∀b∈fp,(upd H2 D (.lst [])) b=none:=fun b hb=>(f3 b hb).1.1
 generalize hce:compEnvC scope (cellsFrom (s3.heap.objs.size+1) scope.names (cloFrom X.env.cells scope.names [])) s3.heap.objs.size X.env=ce at I4 pg pt pe ⊢
 have cL:ce.locals=s3.heap.objs.size:=by subst hce;rfl
 generalize hH3:upd H2 D (.lst [])=H3 at I3 I4 pg pt pe w0 nfp f3
 generalize hs4:({ s3 with heap:=pushCells (s3.heap.push { cls:=.type "dict",data:=.dict #[] }) scope.names }:Shared)=s4 at I4 ⊢
 have st4:tn 0 s4.heap:=T.keep _ _ _ st3 fun b _ o e=>by rw [←hs4];exact pushCells_keeps _ _ _ _ (Heap.get?_push_of_some _ e)
 have stat:∀{σ':St} {H':Hp} {s':Shared},Inv (X.blk s3 H3 scope ce fp) [] σ' H' s'→(∀b∈fp,H' b=none)→∀b∈fp,FpOk (X.blk s3 H3 scope ce fp) [] H' b:=fun {σ' H' s'} I' hn b hb =>
  ⟨hn b hb,(I'.ok.exf b hb).1,I'.ok.exfs b hb,.inl hb,fun x c e=>(I'.ok.exf b hb).2 x c e,fun p hp=>absurd (show p∈([]:List (Addr×Obj))++[] from hp) (by simp)⟩
 have loop:codeAny (model X.prog X.w) X.A (.compLoop (.ListComp elt [⟨tg,iter,ifs,0⟩] scope pos) 0 (.ref it) (.ref D) ce) (compPost (model X.prog X.w) X.A X.xe use Qf (.ref D) s3.heap.objs.size) s4:=by
  refine compLoop_any (fun n s'=>∃i H',Inv (X.blk s3 H3 scope ce fp) [] (wipe σ (own.map (·.2))) H' s'∧tn i s'.heap∧(∀b∈fp,H' b=none)∧W i n H') ?_ m0 ⟨0,H3,I4,st4,nfp,w0⟩
  rintro n s5 ⟨i,H5,I5,st5,n5,w5⟩
  rcases turn i n H5 w5 with ⟨stop,qq⟩ | ⟨go,Nx,hNx,step⟩
  ·have td:=T.done (X.blk s3 H3 scope ce fp) rfl rfl rfl hc i [] s5 _ H5 (fun _ _=>False) I5 (stat I5 n5) st5 stop
   refine thnF td fun r s6 ⟨hr,I6⟩=>?_
   subst hr
   have I7:Inv X pins σ H5 s6:=I3.call' (ch:=fp) I6.os I6.base I6.hok I6.bare fun b hb=>⟨(f3 b hb).1.2.2.2.1,(f3 b hb).1.2.1,(f3 b hb).1.2.2.2.2.1,(f3 b hb).1.2.2.2.2.2⟩
   have nC:H5 s3.heap.objs.size=none:=by
    have z:H5 ce.locals=none:=I6.free
    rw [cL] at z
    exact z
   obtain ⟨m,hn,_⟩:=I6.loc
   have hn:s6.heap.Ns ce.locals m:=hn
   rw [cL] at hn
   exact hRR D s3.heap.objs.size s6 m H5 I7 qq hn (I3.fpOk (Nat.le_refl _) nC)
  ·have ti:=T.item (X.blk s3 H3 scope ce fp) rfl rfl rfl hc i [] s5 _ H5 (fun _ _=>False) I5 (stat I5 n5) st5 go
   refine thnF ti fun r s6 ⟨u,hr,h6⟩=>?_
   subst hr
   refine thnF h6 fun _ s7 ⟨x,H7,I7,r7,y7,st7,n7⟩=>?_
   have I7':=I7.pinned (stat I7 n7) (T.obj _ _ st7)
   refine thnF (pg _ s7 _ H7 x u _ I7' r7 (step x H7 y7)) fun _ s8 ⟨σ8,H8,I8,hw8,q8⟩=>?_
   refine thnF (pt _ s8 σ8 H8 _ I8 q8) fun b s9 ⟨H9,I9,q9⟩=>?_
   have fin:∀{s':Shared} {H':Hp},Inv (X.blk s3 H3 scope ce fp) ([]++pinsAt fp s7.heap) σ8 H' s'→Nx H'→∃m,m < n∧∃i H',Inv (X.blk s3 H3 scope ce fp) [] (wipe σ (own.map (·.2))) H' s'∧tn i s'.heap∧(∀b∈fp,H' b=none)∧W i m H':=fun {s' H'} I' nx=>by
    obtain ⟨m',hm,w'⟩:=hNx H' nx
    have pin':∀b∈fp,∀o,s7.heap.get? b=some o→s'.heap.get? b=some o∧H' b=none:=fun b hb o e =>
     let z:=I'.pin (b,o) (List.mem_append_right _ (List.mem_append_right _ (mem_pinsAt hb e)))
     ⟨z.1,z.2.1⟩
    have hl:(wipe σ (own.map (·.2))).length=σ8.length:=by rw [←hw8,wipe_length]
    refine ⟨m',hm,i+1,H',(I'.unpinned (pins:=[])).weak hl (fun j v e=>?_),T.keep _ _ _ st7 fun b hb o e=>(pin' b hb o e).1,fun b hb=>?_,w'⟩
    ·rw [←hw8] at e
     exact (wipe_some e).1
    ·obtain ⟨o,e,_⟩:=T.obj _ _ st7 b hb
     exact (pin' b hb o e).2
   cases b with
   | false =>
    simp only [Bool.false_eq_true,if_false] at q9 ⊢
    exact fin I9 q9
   | true =>
    simp only [if_true] at q9 ⊢
    refine thnF (pe _ s9 σ8 H9 _ I9 q9) fun z s10 ⟨yv,H10,I10,r10,acc,hD10,hz10,nx⟩=>?_
    exact app_ok (X:=X.blk s3 H3 scope ce fp) I10 hD10 hz10 r10 fun s11 I11=>fin I11 nx
 exact codeAny_compStart_list loop (T.self X.A 0 _ _ _ st4 loop)
theorem pe_lc {elt tg iter:Expr} {ifs:List Expr} {scope:Scope} {own:List (Str×Nat)} {pos:Pos} {wi:TI} {g:TG} {tt:TT} {te:TE} (hc:X.calm=true) (hN:X.N.Nodup) (hi:PI X tg iter wi) (ok:BlkOk X.N X.env.scope scope own)
  (hg:∀(s:Shared) (H:Hp) (C:Addr) (cl:List (Str×Addr)) (fp:List Addr),PG (X.blk s H scope (compEnvC scope cl C X.env) fp) tg g) (ht:∀(s:Shared) (H:Hp) (C:Addr) (cl:List (Str×Addr)) (fp:List Addr),PTs (X.blk s H scope (compEnvC scope cl C X.env) fp) ifs tt)
  (he:∀(s:Shared) (H:Hp) (C:Addr) (cl:List (Str×Addr)) (fp:List Addr),PE (X.blk s H scope (compEnvC scope cl C X.env) fp) elt te) (hs:∀x,foldedSetIterable iter X.env x=pure x:=by intro _;rfl) :
  PE X (.ListComp elt [⟨tg,iter,ifs,0⟩] scope pos) (tLc wi g tt te (own.map (·.2))):=by
 intro pins s σ H Q I h
 rw [eval_ListComp]
 refine lc_core hc hN I hi ok hg ht he hs h fun D C s' m H' I' q hn f=>⟨m,hn,fun h'' sb=>?_⟩
 obtain ⟨f0,f1,f2,f3,f4,f5⟩:=f
 exact ⟨.ref D,H',I'.turned (t':=s'.toks) (fun b o hb e=>(sb.2 b hb).trans e) f0 f1 f3 f4 f5,rfl,q⟩
theorem ps_setLc {i:Nat} {y:Str} {py:Pos} {elt tg iter:Expr} {ifs:List Expr} {scope:Scope} {own:List (Str×Nat)} {pos spos:Pos} {wi:TI} {g:TG} {tt:TT} {te:TE} (hc:X.calm=true) (hN:X.N.Nodup) (hy:X.N[i]?=some y) (hyl:X.env.scope.names.lookup y=some .local)
  (hsw:swapsWith (.ListComp elt [⟨tg,iter,ifs,0⟩] scope pos) (some (.Name y py)) spos.line X.env=pure true) (hi:PI X tg iter wi) (ok:BlkOk X.N X.env.scope scope own)
  (hg:∀(s:Shared) (H:Hp) (C:Addr) (cl:List (Str×Addr)) (fp:List Addr),PG (X.blk s H scope (compEnvC scope cl C X.env) fp) tg g) (ht:∀(s:Shared) (H:Hp) (C:Addr) (cl:List (Str×Addr)) (fp:List Addr),PTs (X.blk s H scope (compEnvC scope cl C X.env) fp) ifs tt)
  (he:∀(s:Shared) (H:Hp) (C:Addr) (cl:List (Str×Addr)) (fp:List Addr),PE (X.blk s H scope (compEnvC scope cl C X.env) fp) elt te) (hs:∀x,foldedSetIterable iter X.env x=pure x:=by intro _;rfl) :
  PS X (.Assign [.Name y py] (.ListComp elt [⟨tg,iter,ifs,0⟩] scope pos) spos) (tAsg (tLc wi g tt te (own.map (·.2))) (gName i)):=by
 intro pins s σ H D I h
 rw [exec_Assign_Name_used _ _ _ _ hsw]
 refine wpAny_bind (wpAny_standAt (wpAny_bind ?_))
 show wpAny _ X.A (do let _ ← comprehension (.ListComp elt [⟨tg,iter,ifs,0⟩] scope pos) scope X.env (firstIterPos [⟨tg,iter,ifs,0⟩] pos) (newList []) false (eval iter X.env) (some (assign (.Name y py) X.env))) _ _ s
 have h:tLc wi g tt te (own.map (·.2)) σ H (fun x H1=>gName i x σ H1 D.nx):=h
 refine wpAny_bind (thn (lc_core (Qf:=fun _ s'=>SP X pins D .next s') hc hN I hi ok hg ht he hs h fun L C s' m H' I' q hn f=>?_) fun _ s' hq=>wpAny_pure (wpAny_pure hq))
 show wpAny _ _ (assign (.Name y py) X.env (.ref L)) _ _ _
 refine wpAny_assign_Name (store_ok2 (v:=V.ref L) I' hN hy (.inl hyl) rfl (fun s2 I2 ⟨a,sb,ha⟩=>?_) (.inr hyl))
 obtain ⟨f0,f1,f2,f3,f4,f5⟩:=f
 have haC:C≠a:=by
  rcases ha with z | z
  ·rw [z];exact f1
  ·exact fun e=>f4 y a z e.symm
 refine ⟨m,hn.sameBut sb haC,fun h3 sb3=>?_⟩
 exact ⟨_,H',I2.turned (t':=s2.toks) (fun b o hb e=>(sb3.2 b hb).trans e) f0 f1 f3 f4 f5,q⟩
theorem sw_true {elt:Expr} {gs:List Comprehension} {scope:Scope} {pos py:Pos} {y:Str} {l:Nat} {env:Env} (hk:env.scope.kind=.function) (hy:env.scope.names.lookup y=some .local) (hl:(py.line==pos.line)=true)
  (ha:(scope.names.any fun (n,k)=>n==y&&(k==.local||k==.cell))=false):swapsWith (.ListComp elt gs scope pos) (some (.Name y py)) l env=pure true:=by
 have ky:env.kindOf y=some .local:=hy
 have hb:env.blockKind=.function:=by unfold Env.blockKind;rw [hk];rfl
 unfold swapsWith
 simp only [hb,ky,ha,Expr.pos,hl]
 rfl
end
theorem lc_range {lo:Int} {n:Nat} {g:TG} {tt:TT} {te:TE} {vs:List Nat} {σ:St} {H1:Hp} {D:Addr} {Qd:Hp→Prop} (Pv:Nat→Hp→Prop) (h0:Pv 0 (upd H1 D (.lst [])))
  (hs:∀i H,i < n→Pv i H→g (.int (lo+i)) (wipe σ vs) H fun σ2 H2=>wipe σ2 vs=wipe σ vs∧tt σ2 H2 fun b H3 =>
   if b=true then te σ2 H3 fun y H4=>∃acc,H4 D=some (.lst acc)∧acc.length < sizeLine∧Pv (i+1) (upd H4 D (.lst (acc++[y]))) else Pv (i+1) H3) (hd:∀H,Pv n H→Qd H) :
  ∃W:Nat→Nat→Hp→Prop,(∃m,W 0 m (upd H1 D (.lst [])))∧∀i m H,W i m H →
   ((Itr lo n).stop i H∧Qd H)∨((Itr lo n).go i H∧∃Nx:Hp→Prop,(∀H',Nx H'→∃m',m' < m∧W (i+1) m' H')∧∀x H',(Itr lo n).yld i H x H'→g x (wipe σ vs) H' fun σ2 H2=>wipe σ2 vs=wipe σ vs∧tt σ2 H2 fun b H3 =>
    if b=true then te σ2 H3 fun y H4=>∃acc,H4 D=some (.lst acc)∧acc.length < sizeLine∧Nx (upd H4 D (.lst (acc++[y]))) else Nx H3):=by
 refine ⟨fun i m H=>m=n - i∧i≤n∧Pv i H,⟨n,by simp,Nat.zero_le _,h0⟩,?_⟩
 rintro i m H ⟨rfl,hi,p⟩
 by_cases hlt:i < n
 ·refine .inr ⟨hlt,Pv (i+1),fun H' p'=>⟨n - (i+1),by omega,rfl,hlt,p'⟩,fun x H' y=>?_⟩
  obtain ⟨e,y⟩:=y
  subst e y
  exact hs i _ hlt p
 ·have e:i=n:=by omega
  subst e
  exact .inl ⟨Nat.le_refl _,hd H p⟩
theorem lc_list {K:PySem.W.Frag} {a:Addr} {xs:List V} {g:TG} {tt:TT} {te:TE} {vs:List Nat} {σ:St} {H1:Hp} {D:Addr} {Qd:Hp→Prop} (Pv:Nat→Hp→Prop) (h0:Pv 0 (upd H1 D (.lst []))) (hl:∀i H,i≤xs.length→Pv i H→SqL K H a xs)
  (hs:∀i x H,xs[i]?=some x→Pv i H→g x (wipe σ vs) H fun σ2 H2=>wipe σ2 vs=wipe σ vs∧tt σ2 H2 fun b H3 =>
   if b=true then te σ2 H3 fun y H4=>∃acc,H4 D=some (.lst acc)∧acc.length < sizeLine∧Pv (i+1) (upd H4 D (.lst (acc++[y]))) else Pv (i+1) H3) (hd:∀H,Pv xs.length H→Qd H) :
  ∃W:Nat→Nat→Hp→Prop,(∃m,W 0 m (upd H1 D (.lst [])))∧∀i m H,W i m H →
   ((Itl K a).stop i H∧Qd H)∨((Itl K a).go i H∧∃Nx:Hp→Prop,(∀H',Nx H'→∃m',m' < m∧W (i+1) m' H')∧∀x H',(Itl K a).yld i H x H'→g x (wipe σ vs) H' fun σ2 H2=>wipe σ2 vs=wipe σ vs∧tt σ2 H2 fun b H3 =>
    if b=true then te σ2 H3 fun y H4=>∃acc,H4 D=some (.lst acc)∧acc.length < sizeLine∧Nx (upd H4 D (.lst (acc++[y]))) else Nx H3):=by
 refine ⟨fun i m H=>m=xs.length - i∧i≤xs.length∧Pv i H,⟨xs.length,by simp,Nat.zero_le _,h0⟩,?_⟩
 rintro i m H ⟨rfl,hi,p⟩
 have q:=hl i H hi p
 by_cases hlt:i < xs.length
 ·refine .inr ⟨⟨xs,xs[i],q,by simp [hlt]⟩,Pv (i+1),fun H' p'=>⟨xs.length - (i+1),by omega,rfl,hlt,p'⟩,fun x H' y=>?_⟩
  obtain ⟨e,y⟩:=y
  subst e
  exact hs i x _ (y xs q) p
 ·have e:i=xs.length:=by omega
  subst e
  exact .inl ⟨⟨xs,q,Nat.le_refl _⟩,hd H p⟩
def blkC (N:List Str) (sc scope:Scope) (own:List (Str×Nat)):Bool :=
 (match scope.kind with | .function=>true | _=>false)&&(scope.names.all fun y=>decide (scope.names.lookup y.1=some y.2))&&(own.all fun p=>decide (N[p.2]?=some p.1)) &&
  (scope.names.all fun y=>match y.2 with
   | .free=>(match sc.names.lookup y.1 with | some .cell=>true | some .free=>true | _=>false)
   | .local=>decide (y.1∈own.map (·.1))||decide (y.1 ∉ N)
   | .cell=>decide (y.1∈own.map (·.1))||decide (y.1 ∉ N)
   | _=>true)
theorem blkOk_by {N:List Str} {sc scope:Scope} {own:List (Str×Nat)} (h:blkC N sc scope own=true):BlkOk N sc scope own:=by
 unfold blkC at h
 simp only [Bool.and_eq_true,List.all_eq_true,decide_eq_true_eq] at h
 obtain ⟨⟨⟨h1,h2⟩,h3⟩,h4⟩:=h
 refine ⟨?_,h2,h3,fun y hy e=>?_,fun y hy e=>?_⟩
 ·split at h1
  ·assumption
  ·cases h1
 ·have q:=h4 y hy
  simp only [e] at q
  split at q <;> first | exact .inl (by assumption) | exact .inr (by assumption) | cases q
 ·have q:=h4 y hy
  rcases e with e | e <;> (simp only [e,Bool.or_eq_true,decide_eq_true_eq] at q;exact q)
end L2
namespace L2
open PySem PySem.Spec PyProof.Rows
section
variable {prog:Program} {w:World} {A:Around} {R:Result→Shared→Prop} {s:Shared} {elt t0 i0 t1 i1:Expr} {ifs0 ifs1:List Expr} {scope:Scope} {pos:Pos} {it acc:Value} {env:Env}
end
section
variable {X:Cx}
end
end L2
namespace L2
open PySem PySem.Spec PyProof.Rows
section
variable {κ:Type} [DecidableEq κ]
def valV (kvs:List (κ×V)) (k:κ):Option V:=(kvs.find? fun kv=>decide (kv.1=k)).map (·.2)
def putK (kvs:List (κ×V)) (k:κ) (v:V):List (κ×V) :=
 if (kvs.any fun kv=>decide (kv.1=k))=true then kvs.map (fun kv=>if kv.1=k then (kv.1,v) else kv) else kvs++[(k,v)]
theorem valV_pos {p:κ×V} {r:List (κ×V)} {k:κ} (e:p.1=k):valV (p::r) k=some p.2:=by simp [valV,List.find?_cons,e]
theorem valV_neg {p:κ×V} {r:List (κ×V)} {k:κ} (e:¬ p.1=k):valV (p::r) k=valV r k:=by simp [valV,List.find?_cons,e]
theorem valV_any (k:κ):∀kvs:List (κ×V),(kvs.any fun kv=>decide (kv.1=k))=(valV kvs k).isSome
 | []=>rfl
 | p::r=>by
  rw [List.any_cons]
  by_cases e:p.1=k
  ·simp only [valV_pos e,decide_eq_true e,Bool.true_or,Option.isSome_some]
  ·rw [valV_neg e,decide_eq_false e,Bool.false_or];exact valV_any k r
theorem length_putK (kvs:List (κ×V)) (k:κ) (v:V):(putK kvs k v).length≤kvs.length+1:=by
 unfold putK
 split
 ·rw [List.length_map];omega
 ·rw [List.length_append,List.length_cons,List.length_nil];omega
theorem putK_new {kvs:List (κ×V)} {k:κ} (v:V) (h:valV kvs k=none):putK kvs k v=kvs++[(k,v)]:=by
 unfold putK
 rw [valV_any,h]
 exact if_neg (by decide)
theorem RelO.isSome_eq {o:Option V} {u:Option Value} (r:RelO o u):o.isSome=u.isSome:=by
 cases o with
 | none=>cases u with
  | none=>rfl
  | some _=>exact (show False from r).elim
 | some _=>cases u with
  | none=>exact (show False from r).elim
  | some _=>rfl
theorem RelO.getD {o:Option V} {u:Option Value} {d:V} {d':Value} (r:RelO o u) (rd:RelV d d'):RelV (o.getD d) (u.getD d'):=by
 cases o with
 | none=>cases u with
  | none=>exact rd
  | some _=>exact (show False from r).elim
 | some _=>cases u with
  | none=>exact (show False from r).elim
  | some _=>exact r
theorem KV.val {kvs:List (κ×V)} {vs:List (κ×Value)} (r:KV kvs vs) (k:κ):RelO (valV kvs k) (valueAt vs k):=by
 unfold KV at r
 induction r with
 | nil=>exact True.intro
 | @cons p q ps qs h t ih =>
  obtain ⟨h1,h2⟩:=h
  by_cases e:p.1=k
  ·have e':q.1=k:=h1.symm.trans e
   have b:valueAt (q::qs) k=some q.2:=by simp [valueAt,List.find?_cons,e']
   rw [valV_pos e,b];exact h2
  ·have e':¬ q.1=k:=fun z=>e (h1.trans z)
   have b:valueAt (q::qs) k=valueAt qs k:=by simp [valueAt,List.find?_cons,e']
   rw [valV_neg e,b];exact ih
theorem KV.any {kvs:List (κ×V)} {vs:List (κ×Value)} (r:KV kvs vs) (k:κ):(kvs.any fun kv=>decide (kv.1=k))=vs.any fun kv=>decide (kv.1=k):=by
 unfold KV at r
 induction r with
 | nil=>rfl
 | cons h t ih=>rw [List.any_cons,List.any_cons,ih,h.1]
theorem KV.repl {kvs:List (κ×V)} {vs:List (κ×Value)} (r:KV kvs vs) (k:κ) {y:V} {u:Value} (ry:RelV y u) :
  KV (kvs.map fun kv=>if kv.1=k then (kv.1,y) else kv) (vs.map fun kv=>if kv.1=k then (kv.1,u) else kv):=by
 unfold KV at r ⊢
 induction r with
 | nil=>exact .nil
 | @cons p q ps qs h t ih =>
  rw [List.map_cons,List.map_cons]
  refine .cons ?_ ih
  obtain ⟨h1,h2⟩:=h
  by_cases e:p.1=k
  ·rw [if_pos e,if_pos (h1.symm.trans e)];exact ⟨h1,ry⟩
  ·rw [if_neg e,if_neg (fun z=>e (h1.trans z))];exact ⟨h1,h2⟩
theorem KV.put {kvs:List (κ×V)} {vs:List (κ×Value)} (r:KV kvs vs) (k:κ) {y:V} {u:Value} (ry:RelV y u):KV (putK kvs k y) (stored vs k u):=by
 unfold putK stored
 rw [r.any k]
 by_cases e:(vs.any fun kv=>decide (kv.1=k))=true
 ·rw [if_pos e,if_pos e];exact r.repl k ry
 ·rw [if_neg e,if_neg e];exact Paired.snoc r ⟨rfl,ry⟩
theorem KV.keys {kvs:List (κ×V)} {vs:List (κ×Value)} (r:KV kvs vs):kvs.map (·.1)=vs.map (·.1):=by
 unfold KV at r
 induction r with
 | nil=>rfl
 | cons h t ih=>rw [List.map_cons,List.map_cons,ih,h.1]
theorem KV.length {kvs:List (κ×V)} {vs:List (κ×Value)} (r:KV kvs vs):kvs.length=vs.length:=Paired.length r
end
theorem kV_is {P:Program} {w:World} {k:Key} {u:Value} (r:RelV (kV k) u):(mixKind P w).is k u=true:=by
 cases k with
 | inl i=>obtain ⟨t,e⟩:=(show ∃t,u=Value.int i t from r);subst e;exact mixKind_int P w i t
 | inr x=>obtain ⟨t,e⟩:=(show ∃t,u=Value.str x t from r);subst e;exact mixKind_str P w x t
theorem items_are {P:Program} {w:World}:∀{ks:List Key} {us:List Value},Vals (ks.map kV) us→ItemsAre (mixKind P w) ks us
 | [],_,r=>by rw [List.map_nil] at r;cases r;exact .nil
 | k::ks,_,r=>by
  rw [List.map_cons] at r
  cases r with
  | cons h t=>exact .cons (kV_is h) (items_are t)
abbrev KT (H:Hp):List (List Key×V)→List (List Key×Addr×Value)→Prop:=Paired fun p q=>p.1=q.1∧H q.2.1=some (.tup (p.1.map kV))∧RelV p.2 q.2.2
theorem KT.val {H:Hp} {kvs:List (List Key×V)} {xs:List (List Key×Addr×Value)} (r:KT H kvs xs) (k:List Key):RelO (valV kvs k) ((atKey xs k).map (·.2)):=by
 induction r with
 | nil=>exact True.intro
 | @cons p q ps qs h t ih =>
  obtain ⟨h1,_,h2⟩:=h
  by_cases e:p.1=k
  ·have e':q.1=k:=h1.symm.trans e
   have b:atKey (q::qs) k=some q.2:=by simp [atKey,List.find?_cons,e']
   rw [valV_pos e,b];exact h2
  ·have e':¬ q.1=k:=fun z=>e (h1.trans z)
   have b:atKey (q::qs) k=atKey qs k:=by simp [atKey,List.find?_cons,e']
   rw [valV_neg e,b];exact ih
theorem KT.repl {H:Hp} {kvs:List (List Key×V)} {xs:List (List Key×Addr×Value)} (r:KT H kvs xs) (k:List Key) {y:V} {u:Value} (ry:RelV y u) :
  KT H (kvs.map fun kv=>if kv.1=k then (kv.1,y) else kv) (xs.map (putAt k u)):=by
 induction r with
 | nil=>exact .nil
 | @cons p q ps qs h t ih =>
  rw [List.map_cons,List.map_cons]
  refine .cons ?_ ih
  obtain ⟨h1,h2,h3⟩:=h
  unfold putAt
  by_cases e:p.1=k
  ·rw [if_pos e,if_pos (h1.symm.trans e)];exact ⟨h1,h2,ry⟩
  ·rw [if_neg e,if_neg (fun z=>e (h1.trans z))];exact ⟨h1,h2,h3⟩
theorem KT.put {H:Hp} {kvs:List (List Key×V)} {xs:List (List Key×Addr×Value)} (r:KT H kvs xs) (k:List Key) {b:Addr} {y:V} {u:Value} (hb:H b=some (.tup (k.map kV))) (ry:RelV y u) :
  KT H (putK kvs k y) (storedH xs k b u):=by
 have e:(kvs.any fun kv=>decide (kv.1=k))=(atKey xs k).isSome:=by
  rw [valV_any,(r.val k).isSome_eq,Option.isSome_map]
 unfold putK storedH
 rw [e]
 by_cases q:(atKey xs k).isSome=true
 ·rw [if_pos q,if_pos q];exact r.repl k ry
 ·rw [if_neg q,if_neg q];exact Paired.snoc r ⟨rfl,hb,ry⟩
theorem KT.keeps {H H':Hp} {kvs:List (List Key×V)} {xs:List (List Key×Addr×Value)} (r:KT H kvs xs) (ht:∀b ys,H b=some (.tup ys)→H' b=some (.tup ys)):KT H' kvs xs :=
 Paired.mapP r fun _ _ z=>⟨z.1,ht _ _ z.2.1,z.2.2⟩
section
variable {P:Program} {w:World} {H:Hp} {h:Heap} {a:Addr}
theorem rd_of {u:HO} (ok:HOk P w H h) (e:Rd H a u):ObjOk P w H h a u:=e.ok ok
theorem dk_rd {kvs:List (Key×V)} (ok:HOk P w H h) (e:Rd H a (.dK kvs)):kvs.length≤sizeLine∧(a==sysModules)=false∧∃vs,KV kvs vs∧h.DictOf (mixKind P w) a vs :=
 show ObjOk P w H h a (.dK kvs) from rd_of ok e
theorem dk_of {kvs:List (Key×V)} (ok:HOk P w H h) (e:H a=some (.dK kvs)):kvs.length≤sizeLine∧(a==sysModules)=false∧∃vs,KV kvs vs∧h.DictOf (mixKind P w) a vs:=dk_rd ok (.inl e)
theorem key_of {ks:List Key} (ok:HOk P w H h) (e:H a=some (.tup (ks.map kV))):(tupleKind (mixKind P w)).is h ks a:=by
 obtain ⟨_,its,r,o,h1,h2,n,h3⟩:=(show ObjOk P w H h a (.tup (ks.map kV)) from ok a _ e)
 exact ⟨o,its.toArray,n,h1,h2,h3,by simpa using items_are r⟩
theorem dt_rd {kvs:List (List Key×V)} (ok:HOk P w H h) (e:Rd H a (.dT kvs)):kvs.length≤sizeLine∧(a==sysModules)=false ∧
  ∃xs,KT H kvs xs∧h.DictOfH (tupleKind (mixKind P w)) a xs:=by
 obtain ⟨z,y,xs,r,o,es,ep,h1,h2,h3,h4,h5⟩:=(show ObjOk P w H h a (.dT kvs) from rd_of ok e)
 refine ⟨z,y,xs,r,o,es,ep,h1,h2,h3,h4,fun x hx=>?_,h5⟩
 have all:∀{l:List (List Key×V)} {m:List (List Key×Addr×Value)},KT H l m→∀x∈m,(tupleKind (mixKind P w)).is h x.1 x.2.1:=by
  intro l m q
  induction q with
  | nil=>intro x hx;exact nomatch hx
  | @cons p q ps qs hq t ih =>
   intro x hx
   rcases List.mem_cons.mp hx with e | hx
   ·subst e
    exact key_of ok (by rw [←hq.1];exact hq.2.1)
   ·exact ih x hx
 exact all r x hx
theorem dt_of {kvs:List (List Key×V)} (ok:HOk P w H h) (e:H a=some (.dT kvs)):kvs.length≤sizeLine∧(a==sysModules)=false ∧
  ∃xs,KT H kvs xs∧h.DictOfH (tupleKind (mixKind P w)) a xs:=dt_rd ok (.inl e)
end
def DGet (H:Hp) (a:Addr) (y:V) (r:Option V):Prop :=
 (∃kvs k,Rd H a (.dK kvs)∧y=kV k∧r=valV kvs k)∨∃kvs k b,Rd H a (.dT kvs)∧y=.ref b∧H b=some (.tup (k.map kV))∧r=valV kvs k
def DPut (H:Hp) (a:Addr) (y v:V) (H':Hp):Prop :=
 (∃kvs k,H a=some (.dK kvs)∧y=kV k∧kvs.length < sizeLine∧H'=upd H a (.dK (putK kvs k v))) ∨
 ∃kvs k b,H a=some (.dT kvs)∧y=.ref b∧H b=some (.tup (k.map kV))∧kvs.length < sizeLine∧H'=upd H a (.dT (putK kvs k v))
theorem DGet.k {H:Hp} {a:Addr} {kvs:List (Key×V)} {k:Key} (e:H a=some (.dK kvs)):DGet H a (kV k) (valV kvs k):=.inl ⟨kvs,k,.inl e,rfl,rfl⟩
theorem DGet.t {H:Hp} {a b:Addr} {kvs:List (List Key×V)} {k:List Key} (e:H a=some (.dT kvs)) (eb:H b=some (.tup (k.map kV))):DGet H a (.ref b) (valV kvs k):=.inr ⟨kvs,k,b,.inl e,rfl,eb,rfl⟩
theorem DPut.k {H:Hp} {a:Addr} {kvs:List (Key×V)} {k:Key} {v:V} (e:H a=some (.dK kvs)) (hl:kvs.length < sizeLine):DPut H a (kV k) v (upd H a (.dK (putK kvs k v))):=.inl ⟨kvs,k,e,rfl,hl,rfl⟩
theorem DPut.t {H:Hp} {a b:Addr} {kvs:List (List Key×V)} {k:List Key} {v:V} (e:H a=some (.dT kvs)) (eb:H b=some (.tup (k.map kV))) (hl:kvs.length < sizeLine) :
  DPut H a (.ref b) v (upd H a (.dT (putK kvs k v))):=.inr ⟨kvs,k,b,e,rfl,eb,hl,rfl⟩
section
variable {X:Cx} {pins:List (Addr×Obj)} {σ:St} {H:Hp} {s:Shared} {a:Addr} {y v:V} {u r:Value} {o:Option V} {A:Around} {E:Value→Shared→Prop}
theorem Inv.big (I:Inv X pins σ H s):sysModules < s.heap.objs.size:=by
 have h:mainGlobals < s.heap.objs.size:=(I.mod.glob.keeps I.bk).lt
 exact Nat.lt_trans (by decide) h
theorem d_getItem {Q:Value→Shared→Prop} (hu:A.units+1 < cLine) (I:Inv X pins σ H s) (g:DGet H a y (some v)) (ry:RelV y u) (h:∀w' s',Inv X pins σ H s'→RelV v w'→Q w' s') :
  wpAny (model X.prog X.w) A (getItem (.ref a) u) Q E s:=by
 rcases g with ⟨kvs,k,e,ey,l⟩ | ⟨kvs,k,b,e,ey,eb,l⟩
 ·subst ey
  obtain ⟨z,hd,vs,rel,dd⟩:=dk_rd I.hok e
  obtain ⟨w',hw,rw'⟩:=RelO.some_of (v:=v) (o:=valueAt vs k) (by rw [l];exact rel.val k)
  exact wpAny_getItem_of (kV_is ry) dd.mapOf hw (h w' _ (I.tok _) rw')
 ·subst ey
  cases (show u=Value.ref b from ry)
  obtain ⟨z,hd,xs,rel,dd⟩:=dt_rd I.hok e
  obtain ⟨w',hw,rw'⟩:=RelO.some_of (v:=v) (o:=(atKey xs k).map (·.2)) (by rw [l];exact rel.val k)
  obtain ⟨p,hp,hp2⟩:=Option.map_eq_some_iff.mp hw
  refine wpAny_getItem_heap (tupleKind_room_in1 hu) (key_of I.hok eb) dd hp ?_
  rw [hp2]
  exact h w' _ (I.tok _) rw'
theorem d_notIn {Q:Value→Shared→Prop} (hu:A.units+1 < cLine) (I:Inv X pins σ H s) (g:DGet H a y o) (ry:RelV y u) (h:∀s',Inv X pins σ H s'→Q (.bool (!o.isSome)) s') :
  wpAny (model X.prog X.w) A (compareOp .NotIn u (.ref a)) Q E s:=by
 rcases g with ⟨kvs,k,e,ey,l⟩ | ⟨kvs,k,b,e,ey,eb,l⟩
 ·subst ey
  obtain ⟨z,hd,vs,rel,dd⟩:=dk_rd I.hok e
  refine wpAny_notIn_of (kV_is ry) hd dd.mapOf ?_
  rw [←(rel.val k).isSome_eq,←l]
  exact h _ (I.tok _)
 ·subst ey
  cases (show u=Value.ref b from ry)
  obtain ⟨z,hd,xs,rel,dd⟩:=dt_rd I.hok e
  refine wpAny_notIn_heap (tupleKind_room_in1 hu) (key_of I.hok eb) hd dd ?_
  have q:=(rel.val k).isSome_eq
  rw [Option.isSome_map] at q
  rw [←q,←l]
  exact h _ (I.tok _)
theorem d_write {h':Heap} {t':Nat} {ob:HO} (I:Inv X pins σ H s) (mu:Mut (H a)) (hs:Heap.SameBut a s.heap h') (he:∃q,h'.get? a=some q) (new:ObjOk X.prog X.w (upd H a ob) h' a ob) :
  Inv X pins σ (upd H a ob) { s with heap:=h',toks:=t' } :=
 I.write (x:=a) (e:=a) mu (.inl rfl) (fun b q hb z=>(hs.2 b hb).trans z) he new
theorem dk_new {P:Program} {w:World} {H':Hp} {h':Heap} {kvs:List (Key×V)} {vs:List (Key×Value)} (z:kvs.length≤sizeLine) (hd:(a==sysModules)=false) (rel:KV kvs vs) (dd:h'.DictOf (mixKind P w) a vs) :
  ObjOk P w H' h' a (.dK kvs):=⟨z,hd,vs,rel,dd⟩
theorem d_setItem {H':Hp} {Q:Unit→Shared→Prop} (hu:A.units+1 < cLine) (I:Inv X pins σ H s) (g:DPut H a y v H') (ry:RelV y u) (rv:RelV v r) (h:∀s',Inv X pins σ H' s'→Q () s') :
  wpAny (model X.prog X.w) A (setItem (.ref a) u r) Q E s:=by
 rcases g with ⟨kvs,k,e,ey,l,eH⟩ | ⟨kvs,k,b,e,ey,eb,l,eH⟩
 ·subst ey eH
  obtain ⟨z,hd,vs,rel,dd⟩:=dk_of I.hok e
  have hz:vs.length≤sizeLine:=by rw [←rel.length];exact z
  have hl:(putK kvs k v).length≤sizeLine:=by have:=length_putK kvs k v;omega
  refine wpAny_setItem_pairs (hsz:=hz) (kV_is ry) dd fun h' dd' hs=>h _ ?_
  have he:∃q,h'.get? a=some q:=let ⟨q,_,_,hq,_⟩:=dd';⟨q,hq⟩
  exact d_write I (by rw [e];exact True.intro) hs he (dk_new hl hd (rel.put k rv) dd')
 ·subst ey eH
  cases (show u=Value.ref b from ry)
  obtain ⟨z,hd,xs,rel,dd⟩:=dt_of I.hok e
  have hz:xs.length≤sizeLine:=by rw [←Paired.length rel];exact z
  have hl:(putK kvs k v).length≤sizeLine:=by have:=length_putK kvs k v;omega
  refine wpAny_setItem_heap (hsz:=hz) (tupleKind_room_in1 hu) (key_of I.hok eb) dd fun h' dd' hs=>h _ ?_
  obtain ⟨q,es,ep,hq,h2,h3,h4,_,h5⟩:=dd'
  refine d_write I (by rw [e];exact True.intro) hs ⟨q,hq⟩ ⟨hl,hd,_,(rel.put k eb rv).keeps fun c ys ec=>?_,q,es,ep,hq,h2,h3,h4,h5⟩
  rw [upd_ne (ne_of ec e (fun z=>nomatch z))]
  exact ec
end
section
variable {X:Cx} {pins:List (Addr×Obj)} {σ:St} {H:Hp} {s:Shared} {a:Addr} {kvs:List (Key×V)} {k:Key} {u:Value} {A:Around} {E:Value→Shared→Prop}
end
def NoSl (i:Expr):Prop:=∀ov iv,subscripted i false ov iv=operate [ov,iv] (getItem ov iv)
theorem subD_of {prog:Program} {w:World} {A:Around} {E:Value→Shared→Prop} {s:Shared} {env:Env} {value slice:Expr} {pos:Pos} {T id:String} {Q:Value→Shared→Prop}
  (hl:typeLookup (.type T) "__getitem__"=pure (some (.builtin id))) (hs:NoSl slice)
  (h:wpAny (model prog w) A (eval value env) (fun o s₁=>wpAny (model prog w) A (eval slice env) (fun i s₂=>s₂.TypeIs o T∧wpAny (model prog w) A (getItem o i) Q E s₂) E s₁) E s) :
  wpAny (model prog w) A (eval (.Subscript value slice pos) env) Q E s:=by
 refine Subscript_ (wpAny_mono h (fun o s₁ h₁=>wpAny_mono h₁ (fun i s₂ h₂=>?_) fun _ _ x=>x) fun _ _ x=>x)
 obtain ⟨hT,h₂⟩:=h₂
 unfold subscriptTail
 refine wpAny_bind ?_
 rw [getitemInPython_of_ne hT.not_modules]
 refine wpAny_bind (wpAny_specialOf hT hl ?_)
 have fin:wpAny (model prog w) A (subscripted slice false o i) (fun r s₃=>wpAny (model prog w) A (letTemporaryGo value o r >>= fun _=>pure r) Q E s₃) E s₂:=by
  rw [hs o i]
  exact wpAny_operating (wpAny_mono h₂ (fun r s₃ h₃=>wpAny_bind (wpAny_letTemporaryGo (wpAny_pure h₃))) fun _ _ x=>x)
 first
  | exact wpAny_pure (wpAny_bind fin)
  | exact wpAny_bind (wpAny_pure (wpAny_bind fin))
  | exact wpAny_bind fin
theorem dict_typeIs {X:Cx} {pins:List (Addr×Obj)} {σ:St} {H:Hp} {s:Shared} {a:Addr} {y:V} {o:Option V} (I:Inv X pins σ H s) (g:DGet H a y o):s.TypeIs (.ref a) "dict":=by
 rcases g with ⟨kvs,k,e,_,_⟩ | ⟨kvs,k,b,e,_,_,_⟩
 ·obtain ⟨_,_,vs,_,dd⟩:=dk_rd I.hok e
  exact dd.typeIs
 ·obtain ⟨_,_,xs,_,dd⟩:=dt_rd I.hok e
  exact dd.typeIs
def tDGet (td ty:TE):TE:=fun σ H Q=>td σ H fun x H1=>ty σ H1 fun y H2=>∃a v,x=.ref a∧DGet H2 a y (some v)∧Q v H2
def tDNotIn (ty td:TE):TE:=fun σ H Q=>ty σ H fun y H1=>td σ H1 fun x H2=>∃a o,x=.ref a∧DGet H2 a y o∧Q (.bl (!o.isSome)) H2
def sDPut (td ty tv:TE):TS:=fun D σ H=>tv σ H fun v H1=>td σ H1 fun x H2=>ty σ H2 fun y H3=>∃a H4,x=.ref a∧DPut H3 a y v H4∧D.nx σ H4
section
variable {X:Cx} {o i e value:Expr} {pos pos' tpos:Pos} {td ty tv:TE}
theorem pe_dget (hu:X.A.units+1 < cLine) (ho:PE X o td) (hi:PE X i ty) (hs:NoSl i):PE X (.Subscript o i pos) (tDGet td ty):=by
 intro pins s σ H Q I h
 refine subD_of PySem.F.slot_dict_getitem.lookup hs (thn (ho pins s σ H _ I h) fun u s1 ⟨x,H1,I1,rx,q1⟩=>thn (hi pins s1 σ H1 _ I1 q1) fun iv s2 ⟨y,H2,I2,ry,a,v,ex,g,q2⟩=>?_)
 subst ex
 obtain rfl:u=Value.ref a:=rx
 exact ⟨dict_typeIs I2 g,d_getItem hu I2 g ry fun w' s3 I3 rw'=>⟨v,H2,I3,rw',q2⟩⟩
theorem pc_dnotin (hu:X.A.units+1 < cLine) (hi:PE X i ty) (ho:PE X o td):PC X .NotIn i o (tDNotIn ty td):=by
 intro pins s σ H Q I h
 refine thn (hi pins s σ H _ I h) fun iv s1 ⟨y,H1,I1,ry,q1⟩=>thn (ho pins s1 σ H1 _ I1 q1) fun u s2 ⟨x,H2,I2,rx,a,ov,ex,g,q2⟩=>?_
 subst ex
 obtain rfl:u=Value.ref a:=rx
 exact d_notIn hu I2 g ry fun s3 I3=>⟨.bl (!ov.isSome),H2,I3,rfl,q2⟩
theorem ps_dput (hu:X.A.units+1 < cLine) (ho:PE X o td) (hi:PE X i ty) (hv:PE X value tv) (hs:swapsWith value (some (.Subscript o i pos')) pos.line X.env=pure false) :
  PS X (.Assign [.Subscript o i pos'] value pos) (sDPut td ty tv):=by
 intro pins s σ H D I h
 refine wpAny_Assign_Subscript (thn (hv pins s σ H _ I h) fun r s1 ⟨v,H1,I1,rv,q1⟩=>thn (ho pins s1 σ H1 _ I1 q1) fun u s2 ⟨x,H2,I2,rx,q2⟩=>thn (hi pins s2 σ H2 _ I2 q2) fun iv s3 ⟨y,H3,I3,ry,a,H4,ex,g,q3⟩=>?_) hs
 subst ex
 obtain rfl:u=Value.ref a:=rx
 exact d_setItem hu I3 g ry rv fun s4 I4=>⟨σ,H4,I4,q3⟩
end
theorem dk_empty {P:Program} {w:World} {H:Hp} (h:Heap) (hb:sysModules < h.objs.size):ObjOk P w H (h.push { cls:=.type "dict",data:=.dict #[] }) h.objs.size (.dK []) :=
 ⟨Nat.zero_le _,beq_eq_false_iff_ne.mpr (Ne.symm (Nat.ne_of_lt hb)),[],.nil,Heap.DictOf.new h⟩
theorem dt_empty {P:Program} {w:World} {H:Hp} (h:Heap) (hb:sysModules < h.objs.size):ObjOk P w H (h.push { cls:=.type "dict",data:=.dict #[] }) h.objs.size (.dT []) :=
 ⟨Nat.zero_le _,beq_eq_false_iff_ne.mpr (Ne.symm (Nat.ne_of_lt hb)),[],.nil,_,#[],0,Heap.get?_push_size _ rfl,⟨rfl,rfl,rfl⟩,rfl,rfl,List.nodup_nil⟩
def tDNewK:TE:=fun _ H Q=>∀p,H p=none→Q (.ref p) (upd H p (.dK []))
def tDNewT:TE:=fun _ H Q=>∀p,H p=none→Q (.ref p) (upd H p (.dT []))
section
variable {X:Cx} {pos:Pos}
theorem pe_dnewK:PE X (.Dict [] [] pos) tDNewK:=fun pins s σ H Q I h =>
 wpAny_Dict_empty ⟨.ref s.heap.objs.size,_,I.laid (a:=s.heap.objs.size) (o:=.dK []) (t':=s.toks) (fun _ _ q=>Heap.get?_push_of_some _ q) (Nat.le_refl _) (dk_empty s.heap I.big),rfl,h _ (I.hok.fresh (Nat.le_refl _))⟩
theorem pe_dnewT:PE X (.Dict [] [] pos) tDNewT:=fun pins s σ H Q I h =>
 wpAny_Dict_empty ⟨.ref s.heap.objs.size,_,I.laid (a:=s.heap.objs.size) (o:=.dT []) (t':=s.toks) (fun _ _ q=>Heap.get?_push_of_some _ q) (Nat.le_refl _) (dt_empty s.heap I.big),rfl,h _ (I.hok.fresh (Nat.le_refl _))⟩
end
structure M2 (X:Cx) (o:Expr) (m:Str) (apos:Pos) (e f:Expr) (cpos:Pos):Prop where
 base:attributeBase o m X.env (eval o X.env)=eval o X.env
 few:((backTo cpos (starEach [e,f] X.env)).all (fun x=>!x.1)&&(backToKw cpos (keywordEach [] X.env)).all (fun x=>x.1.isSome)
 &&decide (([e,f]:List Expr).length+([]:List Keyword).length+(if ([]:List Keyword).isEmpty then 0 else 1) < 30))=true
 line:(apos.endLine==cpos.line)=true
 trees:backTo cpos (starEach [e,f] X.env)=[(false,eval e X.env),(false,eval f X.env)]
def IsD (H:Hp) (a:Addr):Prop:=(∃kvs,Rd H a (.dK kvs))∨∃kvs,Rd H a (.dT kvs)
theorem isD_at {X:Cx} {pins:List (Addr×Obj)} {σ:St} {H:Hp} {s:Shared} {a:Addr} (I:Inv X pins σ H s) (d:IsD H a) :
  s.TypeIs (.ref a) "dict"∧(∀b,Value.ref a=.ref b→∃ob,s.heap.get? b=some ob∧ob.dict=none)∧(a==sysModules)=false:=by
 rcases d with ⟨kvs,e⟩ | ⟨kvs,e⟩
 ·obtain ⟨_,hd,vs,_,dd⟩:=dk_rd I.hok e
  refine ⟨dd.typeIs,fun b q=>?_,hd⟩
  cases q
  obtain ⟨ob,_,_,h1,h2,_⟩:=dd
  exact ⟨ob,h1,h2.2.1⟩
 ·obtain ⟨_,hd,xs,_,dd⟩:=dt_rd I.hok e
  refine ⟨dd.typeIs,fun b q=>?_,hd⟩
  cases q
  obtain ⟨ob,_,_,h1,h2,_⟩:=dd
  exact ⟨ob,h1,h2.2.1⟩
section
variable {X:Cx} {pins:List (Addr×Obj)} {σ:St} {H:Hp} {s:Shared} {a:Addr} {y d:V} {u r:Value} {o:Option V} {A:Around} {E:Value→Shared→Prop}
theorem d_get2 {Q:Value→Shared→Prop} (hu:A.units+1 < cLine) (I:Inv X pins σ H s) (g:DGet H a y o) (ry:RelV y u) (rd:RelV d r) (h:∀w' s',Inv X pins σ H s'→RelV (o.getD d) w'→Q w' s') :
  wpAny (model X.prog X.w) A (call (.builtin "dict.get") [.ref a,u,r]) Q E s:=by
 rcases g with ⟨kvs,k,e,ey,l⟩ | ⟨kvs,k,b,e,ey,eb,l⟩
 ·subst ey
  obtain ⟨z,hd,vs,rel,dd⟩:=dk_rd I.hok e
  refine call_meetsIn PySem.F.slot_dict_get dd.typeIs PySem.F.entry_dict_get (PySem.F.args_dict_get_3 _ _ _) (meets_dict_get_default (mixKind X.prog X.w) a (kV_is ry) hd r) ⟨_,dd.mapOf,h _ _ (I.tok _) ?_⟩
  rw [l]
  exact (rel.val k).getD rd
 ·subst ey
  cases (show u=Value.ref b from ry)
  obtain ⟨z,hd,xs,rel,dd⟩:=dt_rd I.hok e
  refine call_meetsIn PySem.F.slot_dict_get dd.typeIs PySem.F.entry_dict_get (PySem.F.args_dict_get_3 _ _ _) (meetsH_dict_get_default (tupleKind (mixKind X.prog X.w)) a b hd r) ⟨tupleKind_room_in1 hu,k,xs,key_of I.hok eb,dd,h _ _ (I.tok _) ?_⟩
  rw [l]
  exact (rel.val k).getD rd
end
def tDGet2 (td ty tx:TE):TE:=fun σ H Q=>td σ H fun x H1=>∃a,x=.ref a∧IsD H1 a∧ty σ H1 fun y H2=>tx σ H2 fun z H3=>∃o,DGet H3 a y o∧Q (o.getD z) H3
section
variable {X:Cx} {o e f:Expr} {apos cpos:Pos} {td ty tx:TE}
theorem pe_dget2 (hu:X.A.units+1 < cLine) (ho:PE X o td) (he:PE X e ty) (hf:PE X f tx) (m:M2 X o "get" apos e f cpos):PE X (.Call (.Attribute o "get" apos) [e,f] [] cpos) (tDGet2 td ty tx):=by
 intro pins s σ H Q I h
 refine wpAny_Call_method m.base m.few m.line PySem.F.plainAttrs_dict PySem.F.slot_dict_get PySem.F.type_dict_get (thn (ho pins s σ H _ I h) fun u s1 ⟨x,H1,I1,rx,a,ex,d,q1⟩=>?_)
 subst ex
 obtain rfl:u=Value.ref a:=rx
 obtain ⟨t1,t2,_⟩:=isD_at I1 d
 refine ⟨t1,t2,?_⟩
 rw [m.trees]
 refine Calls.callWith_builtin rfl (Calls.evalArgs_plain (Calls.spliced_cons (thn (he pins s1 σ H1 _ I1 q1) fun iv s2 ⟨y,H2,I2,ry,q2⟩ =>
  Calls.spliced_cons (thn (hf pins s2 σ H2 _ I2 q2) fun fv s3 ⟨z,H3,I3,rz,ov,g,q3⟩=>Calls.spliced_nil ?_))))
 exact d_get2 hu I3 g ry rz fun w' s4 I4 rw'=>⟨_,H3,I4,rw',q3⟩
end
section
variable {X:Cx} {pins:List (Addr×Obj)} {σ:St} {H:Hp} {s:Shared} {a:Addr} {kvs:List (Key×V)} {A:Around} {E:Value→Shared→Prop}
end
section
variable {X:Cx} {pins:List (Addr×Obj)} {σ:St} {H:Hp} {s:Shared} {a:Addr} {y:V} {u:Value} {A:Around} {E:Value→Shared→Prop}
end
end L2
namespace L2
open PySem PySem.Spec PyProof.Rows
section
variable {prog:Program} {w:World} {A:Around} {E:Value→Shared→Prop}
end
section
variable {X:Cx}
end
end L2
namespace L2
open PySem PySem.Spec PyProof.Rows
section
variable {X:Cx} {pins:List (Addr×Obj)} {σ:St} {H:Hp} {s:Shared} {h':Heap}
theorem Inv.turnedL {t':Nat} {ch:List Addr} (I:Inv X pins σ H s) (k:∀b o,b ∉ ch→s.heap.get? b=some o→h'.get? b=some o) (hf:∀b∈ch,FpOk X pins H b):Inv X pins σ H { s with heap:=h',toks:=t' }:=by
 have nit:∀b u,H b=some u→b ∉ ch:=fun b u e z=>by
  have q:=(hf b z).1
  rw [q] at e;cases e
 refine I.step (g':=s.gens) (d':=s.drawn) (ch:=ch) (fun b hb=>⟨(hf b hb).2.2.2.1,(hf b hb).2.1,(hf b hb).2.2.2.2.1,(hf b hb).2.2.2.2.2⟩) (fun b o _ _ hc e _=>k b o hc e) (fun b o _ _ hc e _=>⟨o.slots,k b o hc e⟩)
  (fun _ _ _ _ n=>n) (fun b o hc e=>⟨o,k b o hc e⟩) (fun _ _ e=>e) (fun _ _ _ e=>e) (fun b ps e=>⟨#[],by rw [e];simp⟩) (fun m hm=>?_) (fun b u e=>?_) I.bare
 ·obtain ⟨o,es,ep,ho,r⟩:=hm
  exact ⟨o,es,ep,k _ o (fun z=>(hf _ z).2.1 rfl) ho,r⟩
 ·refine (I.hok b u e).stay (fun c v hc q=>k c v ?_ q) (fun _ q=>q) fun _ _ q=>q
  rcases hc with z | z
  ·rw [z];exact nit b u e
  ·exact nit c _ z
theorem Inv.turnedNew {t':Nat} {ch:List Addr} {T:Addr} {ob:HO} (I:Inv X pins σ H s) (k:∀b o,b ∉ ch→s.heap.get? b=some o→h'.get? b=some o) (hf:∀b∈ch,FpOk X pins H b) (hT:s.heap.objs.size≤T)
  (new:ObjOk X.prog X.w (upd H T ob) h' T ob):Inv X pins σ (upd H T ob) { s with heap:=h',toks:=t' }:=by
 have hn:H T=none:=I.hok.fresh hT
 have nit:∀b u,H b=some u→b ∉ ch:=fun b u e z=>by
  have q:=(hf b z).1
  rw [q] at e;cases e
 refine I.step (g':=s.gens) (d':=s.drawn) (ch:=ch) (fun b hb=>⟨(hf b hb).2.2.2.1,(hf b hb).2.1,(hf b hb).2.2.2.2.1,(hf b hb).2.2.2.2.2⟩) (fun b o _ _ hc e _=>k b o hc e) (fun b o _ _ hc e _=>⟨o.slots,k b o hc e⟩)
  (fun b o _ e n=>?_) (fun b o hc e=>⟨o,k b o hc e⟩) (fun b xs e=>?_) (fun b o u e=>?_) (fun b ps e=>⟨#[],?_⟩) (fun m hm=>?_) (fun b u e=>?_) I.bare
 ·rw [upd_ne (Nat.ne_of_lt (Nat.lt_of_lt_of_le (Heap.lt_size e) hT))];exact n
 ·rw [upd_ne (ne_of_none e hn)];exact e
 ·rw [upd_ne (ne_of_none e hn)];exact e
 ·rw [upd_ne (ne_of_none e hn),e];simp
 ·obtain ⟨o,es,ep,ho,r⟩:=hm
  exact ⟨o,es,ep,k _ o (fun z=>(hf _ z).2.1 rfl) ho,r⟩
 ·by_cases hb:b=T
  ·subst hb
   rw [upd_same] at e
   cases e
   exact new
  ·rw [upd_ne hb] at e
   refine (I.hok b u e).stay (fun c v hc q=>k c v ?_ q) (fun c q=>by rw [upd_ne (ne_of_none q hn)];exact q) fun c xs q=>by rw [upd_ne (ne_of_none q hn)];exact q
   rcases hc with z | z
   ·rw [z];exact nit b u e
   ·exact nit c _ z
theorem Inv.lock {d:Addr} {u:HO} (I:Inv X pins σ H s) (h:H d=some u) (mu:Mut (some u)):∃od,Inv X pins σ (upd H d (.frz od u)) s:=by
 have x:=I.hok d u h
 have ex:∃od,s.heap.get? d=some od:=by
  cases u with
  | lst xs=>obtain ⟨_,_,_,_,e⟩:=x;exact ⟨_,e⟩
  | dK kvs=>obtain ⟨_,_,_,_,o,_,_,e,_⟩:=x;exact ⟨o,e⟩
  | dT kvs=>obtain ⟨_,_,_,_,o,_,_,e,_⟩:=x;exact ⟨o,e⟩
  | set S n=>obtain ⟨o,_,_,_,e,_⟩:=x;exact ⟨o,e⟩
  | ins C dx fs=>obtain ⟨_,_,_,e,_⟩:=x;exact ⟨_,e⟩
  | ext φ=>obtain ⟨_,⟨_,e⟩,_⟩:=x;exact ⟨_,e⟩
  | _=>exact False.elim mu
 obtain ⟨od,e⟩:=ex
 have new:ObjOk X.prog X.w (upd H d (.frz od u)) s.heap d (.frz od u):=by
  refine ⟨e,x.stay (fun b v _ q=>q) (fun b q=>?_) fun b xs q=>?_⟩
  ·rw [upd_ne (fun z=>by rw [z,h] at q;cases q;exact mu)];exact q
  ·rw [upd_ne (fun z=>by rw [z,h] at q;cases q;exact mu)];exact q
 exact ⟨od,I.write (x:=d) (e:=d) (t':=s.toks) (h':=s.heap) (by rw [h];exact mu) (.inl rfl) (fun b v _ q=>q) ⟨od,e⟩ new⟩
end
section
variable {X:Cx}
theorem pi_one {tg:Expr} {pins:List (Addr×Obj)} {σ:St} {H:Hp} {s:Shared} {R:It→Hp→Prop} {J:It} {tn:Nat→Heap→Prop} {tk:Nat} (I:Inv X pins σ H s) (o:Obj)
  (T:Turn X.prog X.w X.K tg J [s.heap.objs.size] s.heap.objs.size tn) (st:tn 0 (s.heap.push o)) (q:R J H):PIE X pins σ tg R (.ref s.heap.objs.size) { s with heap:=s.heap.push o,toks:=tk }:=by
 refine ⟨s.heap.objs.size,[s.heap.objs.size],tn,J,H,rfl,I.kept fun b ob e=>Heap.get?_push_of_some _ e,T,st,fun b hb=>?_,q⟩
 have e:b=s.heap.objs.size:=by simpa using hb
 subst e
 exact I.fpOk (Nat.le_refl _) (I.hok.fresh (Nat.le_refl _))
end
def Itc (lo c:Int) (n:Nat):It:=⟨fun i _=>i < n,fun i H x H'=>H'=H∧x=.int (lo+(i:Nat) * c),fun i _=>n≤i⟩
theorem turn_rangeC {P:Program} {w:World} {K:PySem.W.Frag} {tg:Expr} (it:Addr) (lo c:Int) (n:Nat):Turn P w K tg (Itc lo c n) [it] it (fun i h=>IsRangeIter h it (lo+(i:Nat) * c) ((n:Int) - (i:Nat)) c) where
 mem:=by simp
 obj:=fun i h st b hb=>by
  have e:b=it:=by simpa using hb
  subst e
  exact ⟨_,st,fun v z=>nomatch z⟩
 keep:=fun i h h' st k=>k it (by simp) _ st
 item:=by
  intro X hP hw hK hc i pins s σ H E I hf st hg
  subst hP hw hK
  obtain ⟨f0,f1,f2,f3,f4,f5⟩:=hf it (by simp)
  have W:=Walks.range (prog:=X.prog) (w:=X.w) (I.ok.hd hc) it lo c n
  refine W.item i s _ _ hg st fun v h' tk hv st' kk=>?_
  obtain ⟨t,rfl⟩:=hv
  have I1:Inv X pins σ H { s with heap:=h',toks:=tk }:=I.turned (fun b o hb e=>kk b o (by simpa using hb) e) f0 f1 f3 f4 f5
  exact ⟨_,rfl,go_of (s:={ s with heap:=h',toks:=tk }) (n:="range_iterator") st' rfl rfl (by decide) ⟨.int (lo+(i:Nat) * c),H,I1,⟨t,rfl⟩,⟨rfl,rfl⟩,st',fun b hb=>(hf b hb).1⟩⟩
 done:=by
  intro X hP hw hK hc i pins s σ H E I hf st hg
  subst hP hw hK
  obtain ⟨f0,f1,f2,f3,f4,f5⟩:=hf it (by simp)
  exact wpAny_pyNext_range_end (I.ok.hd hc) st (by have:n≤i:=hg;omega) fun h' eb=>⟨rfl,I.turned (t':=s.toks) (fun b o hb e=>eb b o hb e) f0 f1 f3 f4 f5⟩
 self:=fun A i s Q E st h=>wpAny_pyIter_rangeiter st h
def RgC (i j c:Int) (n:Nat):Prop:=c≠0∧c.natAbs < 1073741824∧Builtin.Range.small i j c=true∧Builtin.Range.rangeSize i j c=n
theorem RgC.neg {i j:Int} (ha:-(2^62)≤i) (ha':i < 2^62) (hb:-(2^62)≤j) (hb':j < 2^62):RgC i j (-1) (i - j).toNat :=
 ⟨by decide,by decide,PySem.W.small_down ha ha' hb hb',PySem.W.rangeSize_downNat i j⟩
def iRng3 (ta:TA):TI:=fun σ H R=>ta σ H fun vs H1=>∃(i j c:Int) (n:Nat),vs=[.int i,.int j,.int c]∧RgC i j c n∧R (Itc i c n) H1
section
variable {X:Cx} {tg:Expr}
theorem pi_range3 {a b c:Expr} {ta:TA} {p pos:Pos} (hg:Gl X "range") (hm:X.mg "range"=none) (ha:PA X [a,b,c] ta)
  (hs:starEach [a,b,c] X.env=(false,eval a X.env)::starEach [b,c] X.env:=by rfl) (hpl:(backTo pos (starEach [b,c] X.env)).any (·.1)=false:=by rfl) :
  PI X tg (.Call (.Name "range" p) [a,b,c] [] pos) (iRng3 ta):=by
 intro pins s σ H R I h
 refine Call_ (ld_blt I hg hm boot_range (PyProof.Rows.callWith_type1 (thn (ha pos pins s σ H _ I h) fun us s1 ⟨vs,H1,I1,r1,q1⟩=>?_) hs hpl))
 obtain ⟨i,j,k,n,e,⟨c0,c1,c2,c3⟩,q⟩:=q1
 subst e
 cases r1 with
 | cons r rr =>
  cases rr with
  | cons r' rr =>
   cases rr with
   | cons r'' rr =>
    cases rr
    obtain ⟨t,rfl⟩:=r
    obtain ⟨t',rfl⟩:=r'
    obtain ⟨t'',rfl⟩:=r''
    refine call_range_3 c0 ?_ (.inl (PyProof.noPylong_small c1))
    refine wpAny_pyIter_range (IsRange.new ..) c2 ?_
    have I2:Inv X pins σ H1 { s1 with heap:=s1.heap.push { cls:=.type "range",data:=.fields #[.int i t,.int j t',.int k t''] } }:=I1.kept (t':=s1.toks) fun b o e=>Heap.get?_push_of_some _ e
    refine pi_one (tk:=s1.toks) I2 _ (turn_rangeC _ i k n) ?_ q
    have e1:i+((0:Nat):Int) * k=i:=by simp
    have e2:(n:Int) - ((0:Nat):Int)=Builtin.Range.rangeSize i j k:=by rw [c3];simp
    show IsRangeIter _ _ (i+((0:Nat):Int) * k) ((n:Int) - ((0:Nat):Int)) k
    rw [e1,e2]
    exact Heap.get?_push_size _ rfl
end
theorem for_rangeC {lo c:Int} {n:Nat} {g:TG} {tb:TS} {D:Ends} {σ:St} {H:Hp} (Pv:Nat→St→Hp→Prop) (h0:Pv 0 σ H)
  (hs:∀i σ H,i < n→Pv i σ H→g (.int (lo+(i:Nat) * c)) σ H fun σ2 H2=>tb { D with nx:=Pv (i+1),ct:=Pv (i+1),bk:=D.nx } σ2 H2) (hd:∀σ H,Pv n σ H→D.nx σ H) :
  ∃W:Nat→Nat→St→Hp→Prop,(∃m,W 0 m σ H)∧∀i m σ H,W i m σ H →
   ((Itc lo c n).stop i H∧D.nx σ H)∨((Itc lo c n).go i H∧∃N:St→Hp→Prop,(∀σ' H',N σ' H'→∃m',m' < m∧W (i+1) m' σ' H')∧∀x H',(Itc lo c n).yld i H x H'→g x σ H' fun σ2 H2=>tb { D with nx:=N,ct:=N,bk:=D.nx } σ2 H2):=by
 refine ⟨fun i m σ H=>m=n - i∧i≤n∧Pv i σ H,⟨n,by simp,Nat.zero_le _,h0⟩,?_⟩
 rintro i m σ H ⟨rfl,hi,p⟩
 by_cases hlt:i < n
 ·refine .inr ⟨hlt,Pv (i+1),fun σ' H' p'=>⟨n - (i+1),by omega,rfl,hlt,p'⟩,fun x H' y=>?_⟩
  obtain ⟨e,y⟩:=y
  subst e y
  exact hs i σ _ hlt p
 ·have e:i=n:=by omega
  subst e
  exact .inl ⟨Nat.le_refl _,hd σ H p⟩
section
variable {X:Cx} {tg:Expr}
end
section
variable {prog:Program} {w:World} {A:Around} {E:Value→Shared→Prop} {s:Shared}
end
theorem kv_get {κ:Type} {kvs:List (κ×V)} {vs:List (κ×Value)} (h:KV kvs vs):∀{i:Nat} {k:κ} {v:V},kvs[i]?=some (k,v)→∃u,vs[i]?=some (k,u)∧RelV v u:=by
 unfold KV at h
 induction h with
 | nil=>intro i k v e;simp at e
 | @cons a b l₁ l₂ r t ih =>
  intro i k v e
  cases i with
  | zero =>
   simp only [List.getElem?_cons_zero,Option.some.injEq] at e
   subst e
   refine ⟨b.2,?_,r.2⟩
   simp only [List.getElem?_cons_zero]
   exact congrArg some (Prod.ext r.1.symm rfl)
  | succ j =>
   simp only [List.getElem?_cons_succ] at e ⊢
   exact ih e
theorem relV_key {k:Key} {u:Value} (h:keyIs k u=true):RelV (kV k) u:=by
 rcases keyIs_shape h with ⟨i,t,rfl,rfl⟩ | ⟨x,t,rfl,rfl⟩
 ·exact ⟨t,rfl⟩
 ·exact ⟨t,rfl⟩
section
variable {X:Cx} {pins:List (Addr×Obj)} {σ:St} {H:Hp} {s:Shared} {d:Addr} {o:Obj}
theorem Inv.frzK {kvs:List (Key×V)} (I:Inv X pins σ H s) (h:H d=some (.frz o (.dK kvs))) :
  (d==sysModules)=false∧s.heap.get? d=some o∧o.ExactDict∧∃(es:Array DictEntry) (ep:Nat) (vs:List (Key×Value)),o.data=.dict es ep∧es.size=kvs.length∧KV kvs vs∧s.heap.DictAt (mixKind X.prog X.w) d vs ep:=by
 obtain ⟨hd,z,hs,vs,kv,o',es,ep,ho,hx,hdt,r⟩:=I.hok d _ h
 rw [hd] at ho
 cases ho
 refine ⟨hs,hd,hx,es,ep,vs,hdt,?_,kv,o,es,hd,hx,hdt,r⟩
 have l1:=r.2.1.length
 have l2:kvs.length=vs.length:=Paired.length kv
 rw [Array.length_toList] at l1
 omega
end
def Itd (d:Addr) (o:Obj) (kvs:List (Key×V)):It :=
 ⟨fun i H=>H d=some (.frz o (.dK kvs))∧i < kvs.length,fun i H x H'=>H'=H∧∃k,kvs[i]?=some (k,x),fun i H=>H d=some (.frz o (.dK kvs))∧kvs.length≤i⟩
def Iti (d:Addr) (o:Obj) (kvs:List (Key×V)):It :=
 ⟨fun i H=>H d=some (.frz o (.dK kvs))∧i < kvs.length,fun i H x H'=>∃T k v,kvs[i]?=some (k,v)∧x=.ref T∧H T=none∧H'=upd H T (.tup [kV k,v]),fun i H=>H d=some (.frz o (.dK kvs))∧kvs.length≤i⟩
theorem dict_ep {o:Obj} {es es':Array DictEntry} {ep ep':Nat} (h:o.data=.dict es ep) (h':o.data=.dict es' ep'):es'=es∧ep'=ep:=by
 rw [h] at h'
 cases h'
 exact ⟨rfl,rfl⟩
section
variable {P:Program} {w:World} {K:PySem.W.Frag} {tg:Expr} {d:Addr} {o:Obj} {es:Array DictEntry} {ep:Nat}
theorem turn_vals {kvs:List (Key×V)} (it:Addr) (hod:o.data=.dict es ep):Turn P w K tg (Itd d o kvs) [it] it (fun i h=>h.IsValIter it d i kvs.length ep) where
 mem:=by simp
 obj:=fun i h st b hb=>by
  have e:b=it:=by simpa using hb
  subst e
  obtain ⟨oi,e,c,dd⟩:=st
  exact ⟨oi,e,fun v z=>by rw [dd] at z;cases z⟩
 keep:=fun i h h' st k=>st.at fun oi e=>k it (by simp) oi e
 item:=by
  intro X hP hw hK hc i pins s σ H E I hf st hg
  subst hP hw hK
  obtain ⟨hd,hi⟩:=hg
  obtain ⟨f0,f1,f2,f3,f4,f5⟩:=hf it (by simp)
  obtain ⟨hs,hgd,hx,es',ep',vs,hdt,hsz,kv,hm⟩:=I.frzK hd
  obtain ⟨rfl,rfl⟩:=dict_ep hod hdt
  obtain ⟨⟨k,v⟩,hkv⟩:∃p,kvs[i]?=some p:=⟨kvs[i],List.getElem?_eq_getElem hi⟩
  obtain ⟨u,hu,ru⟩:=kv_get kv hkv
  have hl:kvs.length=vs.length:=Paired.length kv
  rw [hl] at st
  refine wpAny_pyNext_values_item st hm hu fun h' st' sb=>?_
  have I1:Inv X pins σ H { s with heap:=h' }:=I.turned (t':=s.toks) (fun b ob hb e=>(sb.2 b hb).trans e) f0 f1 f3 f4 f5
  obtain ⟨oi,e,c,dd⟩:=id st'
  refine ⟨u,rfl,go_of (s:={ s with heap:=h' }) e c dd (by decide) ⟨v,H,I1,ru,⟨rfl,k,hkv⟩,?_,fun b hb=>(hf b hb).1⟩⟩
  show h'.IsValIter it d (i+1) kvs.length _
  rw [hl]
  exact st'
 done:=by
  intro X hP hw hK hc i pins s σ H E I hf st hg
  subst hP hw hK
  obtain ⟨hd,hi⟩:=hg
  obtain ⟨f0,f1,f2,f3,f4,f5⟩:=hf it (by simp)
  obtain ⟨hs,hgd,hx,es',ep',vs,hdt,hsz,kv,hm⟩:=I.frzK hd
  obtain ⟨rfl,rfl⟩:=dict_ep hod hdt
  have hl:kvs.length=vs.length:=Paired.length kv
  rw [hl] at st
  exact wpAny_pyNext_values_end (I.ok.hd hc) st hm (List.getElem?_eq_none (by omega)) fun h' eb=>⟨rfl,I.turned (t':=s.toks) (fun b ob hb e=>eb b ob hb e) f0 f1 f3 f4 f5⟩
 self:=fun A i s Q E st h=>wpAny_pyIter_valiter st h
theorem turn_items {kvs:List (Key×V)} {elts:List Expr} {kk:Nat} {tpos:Pos} (it:Addr) (hod:o.data=.dict es ep) :
  Turn P w K (.Tuple elts kk tpos) (Iti d o kvs) [it] it (fun i h=>∃ok ov,IsItemIter h it d i kvs.length ep ok ov) where
 mem:=by simp
 obj:=fun i h st b hb=>by
  have e:b=it:=by simpa using hb
  subst e
  obtain ⟨ok,ov,e⟩:=st
  exact ⟨_,e,fun v z=>nomatch z⟩
 keep:=fun i h h' st k=>let ⟨ok,ov,e⟩:=st;⟨ok,ov,k it (by simp) _ e⟩
 item:=by
  intro X hP hw hK hc i pins s σ H E I hf st hg
  subst hP hw hK
  obtain ⟨hd,hi⟩:=hg
  obtain ⟨hs,hgd,hx,es',ep',vs,hdt,hsz,kv,hm⟩:=I.frzK hd
  obtain ⟨rfl,rfl⟩:=dict_ep hod hdt
  obtain ⟨⟨k,v⟩,hkv⟩:∃p,kvs[i]?=some p:=⟨kvs[i],List.getElem?_eq_getElem hi⟩
  obtain ⟨u,hu,ru⟩:=kv_get kv hkv
  have hl:kvs.length=vs.length:=Paired.length kv
  obtain ⟨ok,ov,he⟩:=st
  rw [hl] at he
  have hlt:it < s.heap.objs.size:=Heap.lt_size he
  refine wpAny_pyNext_items_item he hm hu fun key h' hkey ho hT hz hk=>?_
  refine ⟨_,rfl,wpAny_letOwnedTupleGo_items (s:={ s with heap:=h' }) ho fun h'' he' sb=>?_⟩
  have hT2:h''.get? s.heap.objs.size=some { cls:=.type "tuple",data:=.seq #[key,u] }:=(sb.2 _ (Nat.ne_of_gt hlt)).trans hT
  have new:ObjOk X.prog X.w (upd H s.heap.objs.size (.tup [kV k,v])) h'' s.heap.objs.size (.tup [kV k,v]) :=
   ⟨by show 2≤sizeLine;decide,[key,u],.cons (relV_key (show keyIs k key=true from hkey)) (.cons ru .nil),⟨_,hT2,rfl,_,rfl⟩⟩
  have I1:Inv X pins σ (upd H s.heap.objs.size (.tup [kV k,v])) { s with heap:=h'' } :=
   I.turnedNew (t':=s.toks) (ch:=[it]) (fun b ob hb e=>(sb.2 b (by simpa using hb)).trans (hk b ob (by simpa using hb) e)) hf (Nat.le_refl _) new
  refine ⟨.ref s.heap.objs.size,_,I1,rfl,⟨_,k,v,hkv,rfl,I.hok.fresh (Nat.le_refl _),rfl⟩,⟨key,u,?_⟩,fun b hb=>?_⟩
  ·rw [hl];exact he'
  ·have e:b=it:=by simpa using hb
   rw [e,upd_ne (Nat.ne_of_lt hlt)]
   exact (hf it (by simp)).1
 done:=by
  intro X hP hw hK hc i pins s σ H E I hf st hg
  subst hP hw hK
  obtain ⟨hd,hi⟩:=hg
  obtain ⟨f0,f1,f2,f3,f4,f5⟩:=hf it (by simp)
  obtain ⟨hs,hgd,hx,es',ep',vs,hdt,hsz,kv,hm⟩:=I.frzK hd
  obtain ⟨rfl,rfl⟩:=dict_ep hod hdt
  have hl:kvs.length=vs.length:=Paired.length kv
  obtain ⟨ok,ov,he⟩:=st
  rw [hl] at he
  exact wpAny_pyNext_items_end (I.ok.hd hc) he hm (List.getElem?_eq_none (by omega)) fun h' eb=>⟨rfl,I.turned (t':=s.toks) (fun b ob hb e=>eb b ob hb e) f0 f1 f3 f4 f5⟩
 self:=fun A i s Q E st h=>let ⟨_,_,e⟩:=st;PySem.W.kcp_self e h
end
def iVals (td:TE):TI:=fun σ H R=>td σ H fun x H1=>∃d o kvs,x=.ref d∧H1 d=some (.frz o (.dK kvs))∧R (Itd d o kvs) H1
def iItems (td:TE):TI:=fun σ H R=>td σ H fun x H1=>∃d o kvs,x=.ref d∧H1 d=some (.frz o (.dK kvs))∧R (Iti d o kvs) H1
section
variable {X:Cx} {tg e:Expr} {td:TE} {apos cpos:Pos}
theorem pi_values (he:PE X e td) (hbase:attributeBase e "values" X.env (eval e X.env)=eval e X.env:=by rfl) (hline:(apos.endLine==cpos.line)=true:=by rfl):PI X tg (.Call (.Attribute e "values" apos) [] [] cpos) (iVals td):=by
 intro pins s σ H R I h
 refine wpAny_Call_method (T:="dict") (id:="dict.values") hbase rfl hline F.plainAttrs_dict F.slot_dict_values F.type_dict_values (thn (he pins s σ H _ I h) fun u s1 ⟨x,H1,I1,rx,d,o,kvs,ex,hd,q⟩=>?_)
 subst ex
 obtain rfl:u=Value.ref d:=rx
 obtain ⟨hs,hgd,hx,es,ep,vs,hdt,hsz,kv,hm⟩:=I1.frzK hd
 have hl:kvs.length=vs.length:=Paired.length kv
 refine ⟨hm.dictOf.typeIs,hm.dictOf.mapOf.noDict,?_⟩
 have I2:Inv X pins σ H1 { s1 with heap:=s1.heap.push { cls:=.type "dict_values",data:=.fields #[.ref d] } }:=I1.kept (t':=s1.toks) fun b ob q=>Heap.get?_push_of_some _ q
 have fin:wpAny (model X.prog X.w) X.A (pyIter (.ref s1.heap.objs.size)) (PIE X pins σ tg R) X.xe { s1 with heap:=s1.heap.push { cls:=.type "dict_values",data:=.fields #[.ref d] } }:=by
  refine wpAny_pyIter_values (d:=d) (knd:=mixKind X.prog X.w) ⟨_,Heap.get?_push_size _ rfl,rfl,rfl⟩ (hm.push _) (pi_one (tk:=s1.toks) I2 _ (turn_vals _ hdt) ⟨_,Heap.get?_push_size _ rfl,rfl,?_⟩ q)
  rw [hl] <;> rfl
 show wpAny _ _ (callWith cpos (.builtin "dict.values") [.ref d] [] []) _ X.xe s1
 exact method_meetsIn F.slot_dict_values F.entry_dict_values rfl (PySem.evalArgs_none ⟨rfl,hm.dictOf.typeIs,F.args_dict_values_1 _,_,meets_dict_values (mixKind X.prog X.w) d hs,⟨vs,hm.dictOf⟩,fin⟩)
theorem pi_items {elts:List Expr} {kk:Nat} {tpos:Pos} (he:PE X e td) (hbase:attributeBase e "items" X.env (eval e X.env)=eval e X.env:=by rfl) (hline:(apos.endLine==cpos.line)=true:=by rfl) :
  PI X (.Tuple elts kk tpos) (.Call (.Attribute e "items" apos) [] [] cpos) (iItems td):=by
 intro pins s σ H R I h
 refine wpAny_Call_method (T:="dict") (id:="dict.items") hbase rfl hline F.plainAttrs_dict F.slot_dict_items F.type_dict_items (thn (he pins s σ H _ I h) fun u s1 ⟨x,H1,I1,rx,d,o,kvs,ex,hd,q⟩=>?_)
 subst ex
 obtain rfl:u=Value.ref d:=rx
 obtain ⟨hs,hgd,hx,es,ep,vs,hdt,hsz,kv,hm⟩:=I1.frzK hd
 have hl:kvs.length=vs.length:=Paired.length kv
 refine ⟨hm.dictOf.typeIs,hm.dictOf.mapOf.noDict,?_⟩
 have I2:Inv X pins σ H1 { s1 with heap:=s1.heap.push { cls:=.type "dict_items",data:=.fields #[.ref d] } }:=I1.kept (t':=s1.toks) fun b ob q=>Heap.get?_push_of_some _ q
 have fin:wpAny (model X.prog X.w) X.A (pyIter (.ref s1.heap.objs.size)) (PIE X pins σ (.Tuple elts kk tpos) R) X.xe { s1 with heap:=s1.heap.push { cls:=.type "dict_items",data:=.fields #[.ref d] } }:=by
  refine wpAny_pyIter_items (d:=d) (knd:=mixKind X.prog X.w) ⟨_,Heap.get?_push_size _ rfl,rfl,rfl⟩ (hm.push _) (pi_one (tk:=s1.toks) I2 _ (turn_items _ hdt) ⟨.none,.none,?_⟩ q)
  rw [hl]
  exact Heap.get?_push_size _ rfl
 show wpAny _ _ (callWith cpos (.builtin "dict.items") [.ref d] [] []) _ X.xe s1
 exact method_meetsIn F.slot_dict_items F.entry_dict_items rfl (PySem.evalArgs_none ⟨rfl,hm.dictOf.typeIs,F.args_dict_items_1 _,_,meets_dict_items (mixKind X.prog X.w) d hs,⟨vs,hm.dictOf⟩,fin⟩)
end
def Ite (K:PySem.W.Frag) (a:Addr):It :=
 ⟨fun i H=>∃(xs:List V) (x:V),SqL K H a xs∧xs[i]?=some x,fun i H v H'=>∃T x,v=.ref T∧H T=none∧H'=upd H T (.tup [.int (i:Nat),x])∧∀xs,SqL K H a xs→xs[i]?=some x,fun i H=>∃xs:List V,SqL K H a xs∧xs.length≤i⟩
theorem turn_enum {P:Program} {w:World} {K:PySem.W.Frag} {elts:List Expr} {kk:Nat} {tpos:Pos} (a e it:Addr) :
  Turn P w K (.Tuple elts kk tpos) (Ite K a) [e,it] e (fun i h=>(∃old,IsEnum h e it ((i:Nat):Int) old)∧h.IsListIter it a i∧e≠it) where
 mem:=by simp
 obj:=fun i h st b hb=>by
  obtain ⟨⟨old,he⟩,⟨o,ho,hc,hd⟩,_⟩:=st
  have e':b=e∨b=it:=by simpa using hb
  rcases e' with z | z
  ·rw [z];exact ⟨_,he,fun v q=>nomatch q⟩
  ·rw [z];exact ⟨o,ho,fun v q=>by rw [hd] at q;cases q⟩
 keep:=fun i h h' st k=>let ⟨⟨old,he⟩,hi,hne⟩:=st;⟨⟨old,k e (by simp) _ he⟩,hi.at fun o q=>k it (by simp) o q,hne⟩
 item:=by
  intro X hP hw hK hc i pins s σ H E I hf st hg
  subst hP hw hK
  obtain ⟨⟨old,he⟩,hit,hne⟩:=st
  obtain ⟨xs,x,hq,hx⟩:=hg
  obtain ⟨its,rv,p,hz⟩:=I.list hq
  obtain ⟨u,hu,ru⟩:=rv.get hx
  have hel:e < s.heap.objs.size:=Heap.lt_size he
  have hil:it < s.heap.objs.size:=by obtain ⟨_,q,_⟩:=hit;exact Heap.lt_size q
  refine wpAny_pyNext_enum_item he hit p.isList (x:=u) (by simpa using hu) hne fun h' ho hit' hT hsz hk=>?_
  refine ⟨_,rfl,wpAny_letOwnedTupleGo_enum (s:={ s with heap:=h',toks:=s.toks+1 }) ho fun h'' he' sb=>?_⟩
  have hT2:h''.get? s.heap.objs.size=some { cls:=.type "tuple",data:=.seq #[.int i s.toks,u] }:=(sb.2 _ (Nat.ne_of_gt hel)).trans hT
  have new:ObjOk X.prog X.w (upd H s.heap.objs.size (.tup [.int (i:Nat),x])) h'' s.heap.objs.size (.tup [.int (i:Nat),x]) :=
   ⟨by show 2≤sizeLine;decide,[.int i s.toks,u],.cons ⟨_,rfl⟩ (.cons ru .nil),⟨_,hT2,rfl,_,rfl⟩⟩
  have I1:Inv X pins σ (upd H s.heap.objs.size (.tup [.int (i:Nat),x])) { s with heap:=h'',toks:=s.toks+1 } :=
   I.turnedNew (ch:=[e,it]) (fun b ob hb q=>(sb.2 b (fun z=>hb (by simp [z]))).trans (hk b ob (fun z=>hb (by simp [z])) (fun z=>hb (by simp [z])) q)) hf (Nat.le_refl _) new
  refine ⟨.ref s.heap.objs.size,_,I1,rfl,⟨_,x,rfl,I.hok.fresh (Nat.le_refl _),rfl,fun ys hy=>by rw [I.list_inj hy hq];exact hx⟩,⟨⟨u,?_⟩,hit'.at fun o q=>(sb.2 it (Ne.symm hne)).trans q,hne⟩,fun b hb=>?_⟩
  ·have e1:((i+1:Nat):Int)=(i:Int)+1:=by omega
   rw [e1];exact he'
  ·have hb':b < s.heap.objs.size:=by
    have e':b=e∨b=it:=by simpa using hb
    rcases e' with z | z
    ·rw [z];exact hel
    ·rw [z];exact hil
   rw [upd_ne (Nat.ne_of_lt hb')]
   exact (hf b hb).1
 done:=by
  intro X hP hw hK hc i pins s σ H E I hf st hg
  subst hP hw hK
  obtain ⟨⟨old,he⟩,hit,hne⟩:=st
  obtain ⟨xs,hq,hx⟩:=hg
  obtain ⟨its,rv,p,hz⟩:=I.list hq
  obtain ⟨f0,f1,f2,f3,f4,f5⟩:=hf it (by simp)
  have hl:=rv.length
  exact wpAny_pyNext_enum_end (I.ok.hd hc) he hit p.isList (by simp;omega) fun h' eb=>⟨rfl,I.turned (t':=s.toks) (fun b o hb q=>eb b o hb q) f0 f1 f3 f4 f5⟩
 self:=fun A i s Q E st h=>let ⟨⟨_,he⟩,_⟩:=st;wpAny_pyIter_enum he h
def iEnum (K:PySem.W.Frag) (ta:TA):TI:=fun σ H R=>ta σ H fun vs H1=>∃a xs,vs=[.ref a]∧SqL K H1 a xs∧R (Ite K a) H1
theorem pi_enum {X:Cx} {e:Expr} {ta:TA} {p pos tpos:Pos} {elts:List Expr} {kk:Nat} (hg:Gl X "enumerate") (hm:X.mg "enumerate"=none) (ha:PA X [e] ta) (hs:starEach [e] X.env=[(false,eval e X.env)]:=by rfl) :
  PI X (.Tuple elts kk tpos) (.Call (.Name "enumerate" p) [e] [] pos) (iEnum X.K ta):=by
 intro pins s σ H R I h
 refine Call_ (ld_blt I hg hm boot_enumerate (PyProof.Rows.callWith_type1 (thn (ha pos pins s σ H _ I h) fun us s1 ⟨vs,H1,I1,r1,q1⟩=>?_) hs rfl))
 obtain ⟨a,xs,ex,hq,q⟩:=q1
 subst ex
 cases r1 with
 | cons r rr =>
  cases rr
  cases r
  obtain ⟨its,rv,p',hz⟩:=I1.list hq
  refine call_enumerate_list p'.isList fun h' he hit hsz hk=>wpAny_pyIter_enum he ?_
  have I2:Inv X pins σ H1 { s1 with heap:=h' }:=I1.kept (t':=s1.toks) hk
  refine ⟨s1.heap.objs.size+1,[s1.heap.objs.size+1,s1.heap.objs.size],_,_,H1,rfl,I2,turn_enum a (s1.heap.objs.size+1) s1.heap.objs.size,⟨⟨.none,he⟩,hit,Nat.succ_ne_self _⟩,fun b hb=>?_,q⟩
  have e':b=s1.heap.objs.size+1∨b=s1.heap.objs.size:=by simpa using hb
  have hle:s1.heap.objs.size≤b:=by
   rcases e' with z | z
   ·rw [z];exact Nat.le_add_right _ _
   ·rw [z];exact Nat.le_refl _
  exact I1.fpOk hle (I1.hok.fresh hle)
theorem boot_zip5:bootBuiltins "zip"=some (.type "zip"):=by decide +kernel
def Itz (K:PySem.W.Frag) (a b:Addr):It :=
 ⟨fun i H=>∃(xs ys:List V) (x y:V),SqL K H a xs∧SqL K H b ys∧xs[i]?=some x∧ys[i]?=some y,
  fun i H v H'=>∃T x y,v=.ref T∧H T=none∧H'=upd H T (.tup [x,y])∧(∀xs,SqL K H a xs→xs[i]?=some x)∧∀ys,SqL K H b ys→ys[i]?=some y,
  fun i H=>∃xs ys:List V,SqL K H a xs∧SqL K H b ys∧(xs.length≤i∨ys.length≤i)⟩
theorem turn_zip {P:Program} {w:World} {K:PySem.W.Frag} {elts:List Expr} {kk:Nat} {tpos:Pos} {a b z TI TO i1 i2:Addr} (D:ZipApart z TI TO i1 i2 a b) :
  Turn P w K (.Tuple elts kk tpos) (Itz K a b) [z,TI,TO,i1,i2] z (fun i h=>IsZip h z TI TO .none∧IsPair h TI (.ref i1) (.ref i2)∧(∃x y,IsPair h TO x y)∧h.IsListIter i1 a i∧h.IsListIter i2 b i) where
 mem:=by simp
 obj:=fun i h st c hc=>by
  obtain ⟨hz,hTI,⟨x,y,hTO⟩,⟨o1,e1,_,d1⟩,⟨o2,e2,_,d2⟩⟩:=st
  have e':c=z∨c=TI∨c=TO∨c=i1∨c=i2:=by simpa using hc
  rcases e' with q | q | q | q | q
  ·rw [q];exact ⟨_,hz,fun v q=>nomatch q⟩
  ·rw [q];exact ⟨_,hTI,fun v q=>nomatch q⟩
  ·rw [q];exact ⟨_,hTO,fun v q=>nomatch q⟩
  ·rw [q];exact ⟨o1,e1,fun v q=>by rw [d1] at q;cases q⟩
  ·rw [q];exact ⟨o2,e2,fun v q=>by rw [d2] at q;cases q⟩
 keep:=fun i h h' st k=>by
  obtain ⟨hz,hTI,⟨x,y,hTO⟩,h1,h2⟩:=st
  exact ⟨k z (by simp) _ hz,k TI (by simp) _ hTI,⟨x,y,k TO (by simp) _ hTO⟩,h1.at fun o q=>k i1 (by simp) o q,h2.at fun o q=>k i2 (by simp) o q⟩
 item:=by
  intro X hP hw hK hc i pins s σ H E I hf st hg
  subst hP hw hK
  obtain ⟨hz,hTI,⟨x0,y0,hTO⟩,h1,h2⟩:=st
  obtain ⟨xs,ys,x,y,hqx,hqy,hx,hy⟩:=hg
  obtain ⟨its,rv,p,_⟩:=I.list hqx
  obtain ⟨its2,rv2,p2,_⟩:=I.list hqy
  obtain ⟨u,hu,ru⟩:=rv.get hx
  obtain ⟨u2,hu2,ru2⟩:=rv2.get hy
  have hzl:z < s.heap.objs.size:=Heap.lt_size hz
  refine wpAny_pyNext_zip_item D hz hTI hTO h1 h2 p.isList p2.isList (x:=u) (y:=u2) (by simpa using hu) (by simpa using hu2) fun h' z' TO' h1' h2' hT hsz hk=>?_
  refine ⟨_,rfl,wpAny_letOwnedTupleGo_zip (s:={ s with heap:=h' }) z' fun h'' z'' sb=>?_⟩
  have hT2:h''.get? s.heap.objs.size=some { cls:=.type "tuple",data:=.seq #[u,u2] }:=(sb.2 _ (Nat.ne_of_gt hzl)).trans hT
  have new:ObjOk X.prog X.w (upd H s.heap.objs.size (.tup [x,y])) h'' s.heap.objs.size (.tup [x,y]) :=
   ⟨by show 2≤sizeLine;decide,[u,u2],.cons ru (.cons ru2 .nil),⟨_,hT2,rfl,_,rfl⟩⟩
  have I1:Inv X pins σ (upd H s.heap.objs.size (.tup [x,y])) { s with heap:=h'' } :=
   I.turnedNew (t':=s.toks) (ch:=[z,TI,TO,i1,i2]) (fun c o hb q=>(sb.2 c (fun q'=>hb (by simp [q']))).trans (hk c o (fun q'=>hb (by simp [q'])) (fun q'=>hb (by simp [q'])) (fun q'=>hb (by simp [q'])) (fun q'=>hb (by simp [q'])) q)) hf (Nat.le_refl _) new
  refine ⟨.ref s.heap.objs.size,_,I1,rfl,⟨_,x,y,rfl,I.hok.fresh (Nat.le_refl _),rfl,fun l hl=>by rw [I.list_inj hl hqx];exact hx,fun l hl=>by rw [I.list_inj hl hqy];exact hy⟩,⟨z'',?_,⟨u,u2,?_⟩,?_,?_⟩,fun c hcm=>?_⟩
  ·exact (sb.2 _ D.TIz).trans (hk _ _ D.TIz D.TITO D.TIi1 D.TIi2 hTI)
  ·exact (sb.2 _ D.TOz).trans TO'
  ·exact h1'.at fun o q=>(sb.2 _ D.i1z).trans q
  ·exact h2'.at fun o q=>(sb.2 _ D.i2z).trans q
  ·have hlt:c < s.heap.objs.size:=by
    have e':c=z∨c=TI∨c=TO∨c=i1∨c=i2:=by simpa using hcm
    rcases e' with q | q | q | q | q
    ·rw [q];exact hzl
    ·rw [q];exact Heap.lt_size hTI
    ·rw [q];exact Heap.lt_size hTO
    ·rw [q];obtain ⟨_,e1,_⟩:=h1;exact Heap.lt_size e1
    ·rw [q];obtain ⟨_,e2,_⟩:=h2;exact Heap.lt_size e2
   rw [upd_ne (Nat.ne_of_lt hlt)]
   exact (hf c hcm).1
 done:=by
  intro X hP hw hK hc i pins s σ H E I hf st hg
  subst hP hw hK
  obtain ⟨hz,hTI,⟨x0,y0,hTO⟩,h1,h2⟩:=st
  obtain ⟨xs,ys,hqx,hqy,hend⟩:=hg
  obtain ⟨its,rv,p,_⟩:=I.list hqx
  obtain ⟨its2,rv2,p2,_⟩:=I.list hqy
  have l1:=rv.length
  have l2:=rv2.length
  have he:its.toArray[i]?=none∨its2.toArray[i]?=none:=by
   rcases hend with q | q
   ·exact .inl (by simp;omega)
   ·exact .inr (by simp;omega)
  exact wpAny_pyNext_zip_end (I.ok.hd hc) D hz hTI hTO h1 h2 p.isList p2.isList he fun h' hk=>⟨rfl,I.turnedL (t':=s.toks) (ch:=[z,TI,TO,i1,i2]) (fun c o hb q =>
   hk c o (fun q'=>hb (by simp [q'])) (fun q'=>hb (by simp [q'])) (fun q'=>hb (by simp [q'])) (fun q'=>hb (by simp [q'])) q) hf⟩
 self:=fun A i s Q E st h=>wpAny_pyIter_zip st.1 h
def iZip (K:PySem.W.Frag) (ta:TA):TI:=fun σ H R=>ta σ H fun vs H1=>∃a b xs ys,vs=[.ref a,.ref b]∧SqL K H1 a xs∧SqL K H1 b ys∧R (Itz K a b) H1
theorem pi_zip {X:Cx} {e e2:Expr} {ta:TA} {p pos tpos:Pos} {elts:List Expr} {kk:Nat} (hg:Gl X "zip") (hm:X.mg "zip"=none) (ha:PA X [e,e2] ta)
  (hs:starEach [e,e2] X.env=(false,eval e X.env)::starEach [e2] X.env:=by rfl) (hpl:(backTo pos (starEach [e2] X.env)).any (·.1)=false:=by rfl) :
  PI X (.Tuple elts kk tpos) (.Call (.Name "zip" p) [e,e2] [] pos) (iZip X.K ta):=by
 intro pins s σ H R I h
 refine Call_ (ld_blt I hg hm boot_zip5 (PyProof.Rows.callWith_type1 (thn (ha pos pins s σ H _ I h) fun us s1 ⟨vs,H1,I1,r1,q1⟩=>?_) hs hpl))
 obtain ⟨a,b,xs,ys,ex,hqx,hqy,q⟩:=q1
 subst ex
 cases r1 with
 | cons r rr =>
  cases rr with
  | cons r' rr =>
   cases rr
   cases r
   cases r'
   obtain ⟨its,rv,p1,_⟩:=I1.list hqx
   obtain ⟨its2,rv2,p2,_⟩:=I1.list hqy
   have la:a < s1.heap.objs.size:=p1.lt
   have lb:b < s1.heap.objs.size:=p2.lt
   refine call_zip_2 p1.isList p2.isList fun h' hz hTI hTO h1 h2 hsz hk=>wpAny_pyIter_zip hz ?_
   have I2:Inv X pins σ H1 { s1 with heap:=h' }:=I1.kept (t':=s1.toks) hk
   refine ⟨s1.heap.objs.size+4,[s1.heap.objs.size+4,s1.heap.objs.size+2,s1.heap.objs.size+3,s1.heap.objs.size,s1.heap.objs.size+1],_,_,H1,rfl,I2,turn_zip (PySem.W.ktu_apart s1.heap.objs.size a b la lb),⟨hz,hTI,⟨_,_,hTO⟩,h1,h2⟩,fun c hcm=>?_,q⟩
   have e':c=s1.heap.objs.size+4∨c=s1.heap.objs.size+2∨c=s1.heap.objs.size+3∨c=s1.heap.objs.size∨c=s1.heap.objs.size+1:=by simpa using hcm
   have hle:s1.heap.objs.size≤c:=by
    rcases e' with z | z | z | z | z
    ·rw [z];exact Nat.le_add_right _ _
    ·rw [z];exact Nat.le_add_right _ _
    ·rw [z];exact Nat.le_add_right _ _
    ·rw [z];exact Nat.le_refl _
    ·rw [z];exact Nat.le_add_right _ _
   exact I1.fpOk hle (I1.hok.fresh hle)
end L2
section 
namespace Bits
open PySem PyProof.Rows
theorem bitOr_pp {x y:Int} (hx:0≤x) (hy:0≤y):Builtin.bitOr x y=((x.toNat ||| y.toNat:Nat):Int):=by
 have e:=nat_or_add_and x.toNat y.toNat
 rw [bitOr_and,bitAnd_pp hx hy]
 omega
end Bits
end 
section 
namespace TL
open PySem PySem.Builtin PySem.Builtin.Str PySem.StrLaws
end TL
end 
namespace L2
open PySem PySem.Spec PyProof.Rows
section
variable {X:Cx} {pins:List (Addr×Obj)} {σ:St} {H:Hp} {s:Shared} {Q:VK}
end
section
variable {X:Cx}
end
section
variable {X:Cx} {o e:Expr} {to te:TE}
end
end L2
namespace L2
open PySem PySem.Spec PyProof.Rows
section
variable {X:Cx}
end
end L2
namespace Att
open PySem PySem.W PySem.Calls PyProof.Rows
section
variable {prog:Program} {w:World} {A:Around} {E:Value→Shared→Prop} {s:Shared} {K:Frag}
end
end Att
namespace L2
open PySem PySem.Spec PyProof.Rows
end L2
namespace L2
open PySem PySem.Spec PyProof.Rows
end L2
namespace L2
open PySem PySem.Spec PyProof.Rows
def inClass (s:Stmt) (j:Nat):Stmt:=match s with
 | .ClassDef _ _ _ body _ _ _ _ _ _ _=>body.getD j (.Pass ⟨0,0,0,0⟩)
 | _=>.Pass ⟨0,0,0,0⟩
def defArgs (s:Stmt):Arguments:=match s with
 | .FunctionDef _ a _ _ _ _ _ _ _ _=>a
 | _=>{ posonlyargs:=[],args:=[],vararg:=none,kwonlyargs:=[],kw_defaults:=[],kwarg:=none,defaults:=[] }
def defBody (s:Stmt):List Stmt:=match s with
 | .FunctionDef _ _ b _ _ _ _ _ _ _=>b
 | _=>[]
def defScope (s:Stmt):Scope:=match s with
 | .FunctionDef _ _ _ _ _ _ sc _ _ _=>sc
 | _=>{ kind:=.function,names:=[],isGenerator:=false,isCoroutine:=false }
abbrev CX0:CXT:=fun _ _ _ _ _ _=>False
abbrev E0:XK:=fun _ _ _=>False
theorem pass0 {X:Cx}:Passes CX0 X E0:=fun _ _ _ _ _ _ _ h=>h.elim
structure Fun (K:PySem.W.Frag) (x qual:Str) (st:Stmt) (f:Addr) (fd:FuncData):Prop where
 ex:∃(oc:Value) (od:Option Addr) (kV doc pm:Value) (an:Option Addr) (cdv ct:Value) (osl:Array (Option Value)),
  fd=PySem.W.fnOf x qual (defArgs st) (defBody st) (defScope st) .none kV doc pm an cdv ct∧K.lookup f=some ⟨oc,od,.func fd,osl⟩∧PySem.W.codeIn K cdv qual=true
 kp:PySem.W.keepIn K (.ref f)=true
section
variable {P:Program} {w:World} {K:PySem.W.Frag} {mg:Str→Option Value} {base:Heap}
theorem Fun.ok {x qual:Str} {st:Stmt} {f:Addr} {fd:FuncData} {N ps:List Str} {k:Nat} {sp:Sp} (F:Fun K x qual st f fd) (S:FnScope N ps (defScope st)) (len:∀vs H Q E,sp vs H Q E→vs.length=ps.length)
  (hbody:∀(cdv:Value) (A:Around) (outer:List Env) (s:Shared) (H:Hp) (vs:List V) (Q:VK) (E:XK),Room k (A.deeper (envOfC qual (defScope st) s.heap.objs.size f cdv))→sp vs H Q E →
   ∃t,PSs (cxOf CX0 P w K mg base N qual (defScope st) f cdv A outer s H E).nox (defBody st) t∧t { nx:=fun _ H'=>Q .non H',rt:=Q } (start N vs) H):FnOk P w K mg base CX0 (k+1) f fd ps sp:=by
 obtain ⟨oc,od,kV,doc,pm,an,cdv,ct,osl,rfl,lk,hcd⟩:=F.ex
 refine fn_of lk hcd S len fun A outer s H vs Q E hr hsp=>?_
 obtain ⟨t,h,q⟩:=hbody cdv A outer s H vs Q E hr hsp
 exact ⟨t,h.nox,q⟩
theorem Fun.binds {x qual:Str} {st:Stmt} {f:Addr} {fd:FuncData} {ps:List Str} (F:Fun K x qual st f fd)
  (h:∀(kV doc pm:Value) (an:Option Addr) (cdv ct:Value) (us:List Value),us.length=ps.length→bindArgs (PySem.W.fnOf x qual (defArgs st) (defBody st) (defScope st) .none kV doc pm an cdv ct) ⟨us,[]⟩=pure (ps.zip us)):Binds K fd ps []:=by
 obtain ⟨oc,od,kV,doc,pm,an,cdv,ct,osl,rfl,lk,hcd⟩:=F.ex
 exact .all (h kV doc pm an cdv ct)
theorem fun_mk {x qual:Str} {st:Stmt} {f:Addr} {oc:Value} {od an:Option Addr} {osl:Array (Option Value)} {kV doc pm cdv ct:Value} (l:K.lookup f=some ⟨oc,od,.func (PySem.W.fnOf x qual (defArgs st) (defBody st) (defScope st) .none kV doc pm an cdv ct),osl⟩)
  (c:PySem.W.codeIn K cdv qual=true) (k:PySem.W.keepIn K (.ref f)=true):Fun K x qual st f (PySem.W.fnOf x qual (defArgs st) (defBody st) (defScope st) .none kV doc pm an cdv ct):=⟨⟨oc,od,kV,doc,pm,an,cdv,ct,osl,rfl,l,c⟩,k⟩
end
theorem hu_of {A:Around} {k:Nat} (hr:Room k A):A.units+1 < cLine:=Nat.lt_of_le_of_lt (Nat.add_le_add_left (by decide:1≤64) _) hr.units
section
variable {X:Cx}
theorem pv (i:Nat) {x:Str} {pos:Pos} (hN:X.N[i]?=some x:=by rfl) (hv:Vis X.env.scope x:=by first | exact Or.inl rfl | exact Or.inr (Or.inl rfl) | exact Or.inr (Or.inr rfl)) (hd:(x==("__debug__":Str))=false:=by decide)
  (hcd:(x==("__classdict__":Str))=false:=by decide):PE X (.Name x pos) (tVar i):=pe_var hN hv hd hcd
end
theorem iteF {A B:Prop} (h:B):if false=true then A else B:=by
 rw [if_neg Bool.false_ne_true]
 exact h
theorem iteT {A B:Prop} (h:A):if true=true then A else B:=by
 rw [if_pos rfl]
 exact h
theorem ite2 {c A B:Prop} [Decidable c] (h1:c→A) (h2:¬ c→B):if c then A else B:=by
 by_cases h:c
 ·rw [if_pos h]
  exact h1 h
 ·rw [if_neg h]
  exact h2 h
def Same (H H':Hp):Prop:=∀b o,H b=some o→H' b=some o
theorem Same.refl (H:Hp):Same H H:=fun _ _ h=>h
theorem Same.trans {H H1 H2:Hp} (a:Same H H1) (b:Same H1 H2):Same H H2:=fun c o h=>b c o (a c o h)
theorem Same.free {H H':Hp} (e:Same H H') {l:Addr} (h:H' l=Option.none):H l=Option.none:=by
 cases q:H l with
 | none=>rfl
 | some o =>
  rw [e l o q] at h
  cases h
theorem Same.seq {K:PySem.W.Frag} {H H':Hp} {a:Addr} {xs:List V} (e:Same H H') (h:SqL K H a xs):SqL K H' a xs:=by
 rcases h with (h | ⟨o,h⟩) | h
 ·exact .inl (.inl (e _ _ h))
 ·exact .inl (.inr ⟨o,e _ _ h⟩)
 ·exact .inr h
section
variable {κ:Type} [DecidableEq κ]
end
theorem nd_ix {α:Type} {l:List α} (hN:l.Nodup) {i j:Nat} {x:α} (a:l[i]?=some x) (b:l[j]?=some x):i=j:=by
 obtain ⟨h1,e1⟩:=List.getElem?_eq_some_iff.mp a
 obtain ⟨h2,e2⟩:=List.getElem?_eq_some_iff.mp b
 exact (List.getElem_inj hN).mp (e1.trans e2.symm)
theorem Same.made {H H1:Hp} {x dx C:Addr} (nx:H x=Option.none) (nd:H dx=Option.none) (k:∀b o,(upd (upd H dx (.own x)) x (.ins C dx [])) b=some o→b≠x→H1 b=some o):Same H H1:=fun b o e =>
 k b o (by rw [upd_ne (ne_of_none e nx),upd_ne (ne_of_none e nd)];exact e) (ne_of_none e nx)
end L2
section
set_option Elab.async false
set_option linter.all false
set_option maxRecDepth 100000
set_option maxHeartbeats 2000000
namespace L2
open PySem PySem.Spec PyProof.Rows
open PySem.W (WData Codec OpenSpec Well WellAll ReadsW ReadsAllW)
mutual
inductive Dw (K:PySem.W.Frag) (H:Hp):V→WData→Prop
 | non:Dw K H .non .none
 | bl (b:Bool):Dw K H (.bl b) (.bool b)
 | int (i:Int):Dw K H (.int i) (.int i)
 | str (x:Str):Dw K H (.str x) (.str x)
 | byt (b:Array UInt8):Dw K H (.byt b) (.bytes b.toList)
 | lst {a:Addr} {xs:List V} {ds:List WData}:SqL K H a xs→DwAll K H xs ds→Dw K H (.ref a) (.list ds)
 | tup {a:Addr} {xs:List V} {ds:List WData}:SqT K H a xs→DwAll K H xs ds→Dw K H (.ref a) (.tuple ds)
inductive DwAll (K:PySem.W.Frag) (H:Hp):List V→List WData→Prop
 | nil:DwAll K H [] []
 | cons {v:V} {vs:List V} {d:WData} {ds:List WData}:Dw K H v d→DwAll K H vs ds→DwAll K H (v::vs) (d::ds)
end
theorem dw_ints {K:PySem.W.Frag} {H:Hp}:∀ns:List Int,DwAll K H (ns.map V.int) (ns.map WData.int)
 | []=>.nil
 | n::r=>.cons (.int n) (dw_ints r)
theorem ints_dw {K:PySem.W.Frag} {H:Hp}:∀(ns:List Int) (xs:List V),DwAll K H xs (ns.map WData.int)→xs=ns.map V.int
 | [],xs,h=>by
  cases h
  rfl
 | n::r,xs,h=>by
  cases h with
  | cons h1 h2 =>
   cases h1
   rw [ints_dw r _ h2] <;> rfl
section
variable {P:Program} {w:World} {K:PySem.W.Frag} {H:Hp} {h:Heap} {R:PySem.W.WRecords} {cl:Str→Option Addr}
theorem sqL_at {a:Addr} {xs:List V} (hok:HOk P w H h) (KX:K.In h) (q:SqL K H a xs):∃(its:List Value) (o:Obj) (n:Nat),Vals xs its∧h.get? a=some o∧o.cls=.type "list"∧o.data=.seq its.toArray n:=by
 rcases q with q | ⟨o,its,n,e,hc,_,hd,_,hv⟩
 ·obtain ⟨_,its,n,hv,e⟩:=(show ObjOk P w H h a (.lst xs) from q.ok hok)
  exact ⟨its,_,n,hv,e,rfl,rfl⟩
 ·exact ⟨its.toList,o,n,hv,KX _ _ e,hc,by simp [hd]⟩
theorem sqT_at {a:Addr} {xs:List V} (hok:HOk P w H h) (KX:K.In h) (q:SqT K H a xs):∃(its:List Value) (o:Obj) (n:Nat),Vals xs its∧h.get? a=some o∧o.cls=.type "tuple"∧o.data=.seq its.toArray n:=by
 rcases q with q | ⟨o,its,n,e,hc,hd,_,hv⟩
 ·obtain ⟨_,its,hv,o,e,hc,n,hd⟩:=(show ObjOk P w H h a (.tup xs) from q.ok hok)
  exact ⟨its,o,n,hv,e,hc,hd⟩
 ·exact ⟨its.toList,o,n,hv,KX _ _ e,hc,by simp [hd]⟩
mutual
theorem Dw.reads (hok:HOk P w H h) (KX:K.In h):∀(d:WData) (v:V) (u:Value),Dw K H v d→RelV v u→∃as,ReadsW R cl h u d as
 | .none,_,_,x,r=>by
  cases x
  cases r
  exact ⟨_,ReadsW.none⟩
 | .bool b,_,_,x,r=>by
  cases x
  cases r
  exact ⟨_,ReadsW.bool b⟩
 | .int i,_,_,x,r=>by
  cases x
  obtain ⟨t,rfl⟩:=r
  exact ⟨_,ReadsW.int i t⟩
 | .str s,_,_,x,r=>by
  cases x
  obtain ⟨t,rfl⟩:=r
  exact ⟨_,ReadsW.str s t⟩
 | .bytes b,_,_,x,r=>by
  cases x
  obtain ⟨t,rfl⟩:=r
  exact ⟨_,ReadsW.bytes _ t⟩
 | .list ds,_,_,x,r=>by
  cases x with
  | lst hs ha =>
   cases r
   obtain ⟨its,o,n,rv,ho,hc,hd⟩:=sqL_at hok KX hs
   obtain ⟨as,hr⟩:=Dw.readsAll hok KX ds _ its ha rv
   exact ⟨_,ReadsW.list ho hc hd hr⟩
 | .tuple ds,_,_,x,r=>by
  cases x with
  | tup hs ha =>
   cases r
   obtain ⟨its,o,n,rv,ho,hc,hd⟩:=sqT_at hok KX hs
   obtain ⟨as,hr⟩:=Dw.readsAll hok KX ds _ its ha rv
   exact ⟨_,ReadsW.tuple ho hc hd hr⟩
 | .float _,_,_,x,_=>by cases x
 | .dict _,_,_,x,_=>by cases x
 | .bytearray _,_,_,x,_=>by cases x
 | .set _,_,_,x,_=>by cases x
 | .frozenset _,_,_,x,_=>by cases x
 | .obj _ _,_,_,x,_=>by cases x
theorem Dw.readsAll (hok:HOk P w H h) (KX:K.In h):∀(ds:List WData) (vs:List V) (us:List Value),DwAll K H vs ds→Vals vs us→∃as,ReadsAllW R cl h us ds as
 | [],_,_,x,r=>by
  cases x
  cases r
  exact ⟨_,ReadsAllW.nil⟩
 | d::ds,_,_,x,r=>by
  cases x with
  | cons h1 h2 =>
   cases r with
   | cons r1 r2 =>
    obtain ⟨as,q1⟩:=Dw.reads hok KX d _ _ h1 r1
    obtain ⟨bs,q2⟩:=Dw.readsAll hok KX ds _ _ h2 r2
    exact ⟨_,ReadsAllW.cons q1 q2⟩
end
end
mutual
def plW:WData→Bool
 | .none=>true
 | .bool _=>true
 | .int _=>true
 | .str _=>true
 | .bytes _=>true
 | .list xs=>plWs xs
 | .tuple xs=>plWs xs
 | _=>false
def plWs:List WData→Bool
 | []=>true
 | x::r=>plW x&&plWs r
end
theorem plWs_map {α:Type} {f:α→WData} (h:∀a,plW (f a)=true):∀l:List α,plWs (l.map f)=true
 | []=>rfl
 | x::r=>by
  show (plW (f x)&&plWs (r.map f))=true
  rw [h x,plWs_map h r] <;> rfl
theorem pl_enc:∀(c:Codec) (a:c.denote),plW (c.enc a)=true
 | .unit,_=>rfl
 | .bool,_=>rfl
 | .int _ _,_=>rfl
 | .nat _ _,_=>rfl
 | .u8,_=>rfl
 | .bytes _ _,_=>rfl
 | .text _ _ _ _,_=>rfl
 | .list _ _ c,a=>plWs_map (fun x=>pl_enc c x) a
 | .pair c d,a=>by
  show (plW (c.enc a.1)&&(plW (d.enc a.2)&&true))=true
  rw [pl_enc c a.1,pl_enc d a.2] <;> rfl
 | .triple c d e,a=>by
  show (plW (c.enc a.1)&&(plW (d.enc a.2.1)&&(plW (e.enc a.2.2)&&true)))=true
  rw [pl_enc c a.1,pl_enc d a.2.1,pl_enc e a.2.2] <;> rfl
 | .option c,none=>rfl
 | .option c,some x=>pl_enc c x
theorem pl_encAll:∀(cs:List Codec) (a:Codec.denoteAll cs),plWs (Codec.encAll cs a)=true
 | [],_=>rfl
 | c::cs,a=>by
  show (plW (c.enc a.1)&&plWs (Codec.encAll cs a.2))=true
  rw [pl_enc c a.1,pl_encAll cs a.2] <;> rfl
theorem weight_mem:∀{xs:List WData} {d:WData},d∈xs→d.weight≤WData.weightAll xs
 | [],d,h=>absurd h (by simp)
 | x::r,d,h=>by
  show d.weight≤x.weight+1+WData.weightAll r
  rcases List.mem_cons.mp h with e | m
  ·rw [e]
   omega
  ·have z:=weight_mem m
   omega
def toV:Value→V
 | .none=>.non
 | .bool b=>.bl b
 | .int i _=>.int i
 | .str x _=>.str x
 | .bytes b _=>.byt b
 | .ref a=>.ref a
 | _=>.non
def OkU (A:List Addr):Value→Prop
 | .none=>True
 | .bool _=>True
 | .int _ _=>True
 | .str _ _=>True
 | .bytes _ _=>True
 | .ref a=>a∈A
 | _=>False
theorem OkU.mono {A B:List Addr} (h:∀a∈A,a∈B):∀{u:Value},OkU A u→OkU B u:=fun {u} x=>by
 cases u with
 | ref a=>exact h a x
 | none=>trivial
 | bool b=>trivial
 | int i t=>trivial
 | str s t=>trivial
 | bytes b t=>trivial
 | _=>exact False.elim x
theorem relV_toV {A:List Addr} {u:Value} (x:OkU A u):RelV (toV u) u:=by
 cases u with
 | ref a=>rfl
 | none=>rfl
 | bool b=>rfl
 | int i t=>exact ⟨t,rfl⟩
 | str s t=>exact ⟨t,rfl⟩
 | bytes b t=>exact ⟨t,rfl⟩
 | _=>exact False.elim x
theorem vals_toV {A:List Addr}:∀{vs:List Value},(∀u∈vs,OkU A u)→Vals (vs.map toV) vs
 | [],_=>.nil
 | u::r,h=>.cons (relV_toV (h u (List.mem_cons_self ..))) (vals_toV fun x hx=>h x (List.mem_cons_of_mem _ hx))
def ArgOb (h:Heap) (A:List Addr) (a:Addr):Prop:=∃vs:List Value,vs.length≤sizeLine∧(∀u∈vs,OkU A u) ∧
 (h.get? a=some { cls:=.type "list",data:=.seq vs.toArray }∨h.get? a=some { cls:=.type "tuple",data:=.seq vs.toArray })
theorem ArgOb.mono {h:Heap} {A B:List Addr} {a:Addr} (k:∀a∈A,a∈B) (x:ArgOb h A a):ArgOb h B a:=by
 obtain ⟨vs,h1,h2,h3⟩:=x
 exact ⟨vs,h1,fun u hu=>(h2 u hu).mono k,h3⟩
theorem wellAll_len {P:Params} {h:Heap}:∀{vs:List Value} {ds:List WData},WellAll P h vs ds→vs.length=ds.length
 | _,_,.nil=>rfl
 | _,_,.cons _ b=>by
  show _+1=_+1
  rw [wellAll_len b]
theorem well_list {P:Params} {h:Heap} {v:Value} {ds:List WData} (x:Well P h v (.list ds)):∃(a:Addr) (vs:List Value),v=.ref a∧h.get? a=some { cls:=.type "list",data:=.seq vs.toArray }∧WellAll P h vs ds:=by
 cases x with
 | list ho hall=>exact ⟨_,_,rfl,ho,hall⟩
theorem well_tuple {P:Params} {h:Heap} {v:Value} {ds:List WData} (x:Well P h v (.tuple ds)):∃(a:Addr) (vs:List Value),v=.ref a∧h.get? a=some { cls:=.type "tuple",data:=.seq vs.toArray }∧WellAll P h vs ds:=by
 cases x with
 | tuple ho hall=>exact ⟨_,_,rfl,ho,hall⟩
theorem well_cons {P:Params} {h:Heap} {us:List Value} {d:WData} {ds:List WData} (x:WellAll P h us (d::ds)):∃(v:Value) (vs:List Value),us=v::vs∧Well P h v d∧WellAll P h vs ds:=by
 cases x with
 | cons a b=>exact ⟨_,_,rfl,a,b⟩
theorem line_of {n:Nat} (h:n≤1048576):n≤sizeLine:=Nat.le_trans h (by decide)
section
variable {P:Params} {h:Heap}
mutual
theorem area_one:∀(d:WData) (v:Value),Well P h v d→plW d=true→d.weight≤1048576→∃A:List Addr,OkU A v∧∀a∈A,ArgOb h A a
 | .none,_,x,_,_=>by
  cases x
  exact ⟨[],trivial,fun a m=>absurd m (by simp)⟩
 | .bool b,_,x,_,_=>by
  cases x
  exact ⟨[],trivial,fun a m=>absurd m (by simp)⟩
 | .int i,_,x,_,_=>by
  cases x
  exact ⟨[],trivial,fun a m=>absurd m (by simp)⟩
 | .str s,_,x,_,_=>by
  cases x
  exact ⟨[],trivial,fun a m=>absurd m (by simp)⟩
 | .bytes b,_,x,_,_=>by
  cases x
  exact ⟨[],trivial,fun a m=>absurd m (by simp)⟩
 | .list ds,_,x,p,z=>by
  obtain ⟨a,vs,rfl,ho,hall⟩:=well_list x
  have z2:WData.weightAll ds≤1048576:=z
  obtain ⟨A,h1,h2⟩:=area_all ds _ hall p fun d hd=>Nat.le_trans (weight_mem hd) z2
  have k:∀b∈A,b∈a::A:=fun b hb=>List.mem_cons_of_mem _ hb
  refine ⟨a::A,List.mem_cons_self ..,fun b hb=>?_⟩
  rcases List.mem_cons.mp hb with e | m
  ·rw [e]
   exact ⟨vs,line_of (by rw [wellAll_len hall];exact Nat.le_trans (PySem.W.length_le_weightAllW ds) z2),fun u hu=>(h1 u hu).mono k,.inl ho⟩
  ·exact (h2 b m).mono k
 | .tuple ds,_,x,p,z=>by
  obtain ⟨a,vs,rfl,ho,hall⟩:=well_tuple x
  have z2:WData.weightAll ds≤1048576:=z
  obtain ⟨A,h1,h2⟩:=area_all ds _ hall p fun d hd=>Nat.le_trans (weight_mem hd) z2
  have k:∀b∈A,b∈a::A:=fun b hb=>List.mem_cons_of_mem _ hb
  refine ⟨a::A,List.mem_cons_self ..,fun b hb=>?_⟩
  rcases List.mem_cons.mp hb with e | m
  ·rw [e]
   exact ⟨vs,line_of (by rw [wellAll_len hall];exact Nat.le_trans (PySem.W.length_le_weightAllW ds) z2),fun u hu=>(h1 u hu).mono k,.inr ho⟩
  ·exact (h2 b m).mono k
 | .float _,_,_,p,_=>Bool.noConfusion (show false=true from p)
 | .dict _,_,_,p,_=>Bool.noConfusion (show false=true from p)
 | .bytearray _,_,_,p,_=>Bool.noConfusion (show false=true from p)
 | .set _,_,_,p,_=>Bool.noConfusion (show false=true from p)
 | .frozenset _,_,_,p,_=>Bool.noConfusion (show false=true from p)
 | .obj _ _,_,_,p,_=>Bool.noConfusion (show false=true from p)
theorem area_all:∀(ds:List WData) (vs:List Value),WellAll P h vs ds→plWs ds=true→(∀d∈ds,d.weight≤1048576)→∃A:List Addr,(∀u∈vs,OkU A u)∧∀a∈A,ArgOb h A a
 | [],_,x,_,_=>by
  cases x
  exact ⟨[],fun u m=>absurd m (by simp),fun a m=>absurd m (by simp)⟩
 | d::ds,_,x,p,z=>by
  obtain ⟨v,vs,rfl,x1,x2⟩:=well_cons x
  have q:plW d=true∧plWs ds=true:=Bool.and_eq_true_iff.mp p
  obtain ⟨A,a1,a2⟩:=area_one d v x1 q.1 (z d (List.mem_cons_self ..))
  obtain ⟨B,b1,b2⟩:=area_all ds vs x2 q.2 fun e he=>z e (List.mem_cons_of_mem _ he)
  have kA:∀b∈A,b∈A++B:=fun b hb=>List.mem_append.mpr (.inl hb)
  have kB:∀b∈B,b∈A++B:=fun b hb=>List.mem_append.mpr (.inr hb)
  refine ⟨A++B,fun u hu=>?_,fun b hb=>?_⟩
  ·rcases List.mem_cons.mp hu with e | m
   ·rw [e]
    exact a1.mono kA
   ·exact (b1 u m).mono kB
  ·rcases List.mem_append.mp hb with m | m
   ·exact (a2 b m).mono kA
   ·exact (b2 b m).mono kB
end
end
def hoOf (o:Obj):Option HO:=match o.data with
 | .seq vs _=>if (o.cls==Value.type "list")=true then some (.frz o (.lst (vs.toList.map toV))) else some (.frz o (.tup (vs.toList.map toV)))
 | _=>none
def argH (K:PySem.W.Frag) (h:Heap) (A:List Addr):Hp:=fun b=>if b∈A then (if (K.lookup b).isNone=true then (h.get? b).bind hoOf else none) else none
def OnlyF (H:Hp):Prop:=∀b,H b=none∨∃o u,H b=some (.frz o u)
theorem hoOf_lst (vs:List Value):hoOf { cls:=.type "list",data:=.seq vs.toArray }=some (.frz { cls:=.type "list",data:=.seq vs.toArray } (.lst (vs.map toV))):=by
 show (if (Value.type "list"==Value.type "list")=true then some (HO.frz { cls:=.type "list",data:=.seq vs.toArray } (.lst (vs.toArray.toList.map toV))) else some (HO.frz { cls:=.type "list",data:=.seq vs.toArray } (.tup (vs.toArray.toList.map toV))))=_
 rw [if_pos (beq_self_eq_true _)]
theorem hoOf_tup (vs:List Value):hoOf { cls:=.type "tuple",data:=.seq vs.toArray }=some (.frz { cls:=.type "tuple",data:=.seq vs.toArray } (.tup (vs.map toV))):=by
 show (if (Value.type "tuple"==Value.type "list")=true then some (HO.frz { cls:=.type "tuple",data:=.seq vs.toArray } (.lst (vs.toArray.toList.map toV))) else some (HO.frz { cls:=.type "tuple",data:=.seq vs.toArray } (.tup (vs.toArray.toList.map toV))))=_
 rw [if_neg (by decide)]
section
variable {P:Program} {w:World} {K:PySem.W.Frag} {h:Heap} {A:List Addr}
theorem argH_at {b:Addr} {o:Obj} (hb:b∈A) (hk:K.lookup b=none) (e:h.get? b=some o):argH K h A b=hoOf o:=by
 unfold argH
 rw [if_pos hb,hk,if_pos (show (none:Option Obj).isNone=true from rfl),e] <;> rfl
theorem of_argH {b:Addr} {u:HO} (q:argH K h A b=some u):b∈A∧K.lookup b=none:=by
 unfold argH at q
 by_cases hb:b∈A
 ·rw [if_pos hb] at q
  cases hk:K.lookup b with
  | none=>exact ⟨hb,rfl⟩
  | some o =>
   rw [hk,if_neg (by simp)] at q
   cases q
 ·rw [if_neg hb] at q
  cases q
theorem argH_is (ar : ∀ a ∈ A, ArgOb h A a) {b : Addr} {u : HO} (q : argH K h A b = some u) : K.lookup b = none ∧ ∃ vs : List Value, vs.length ≤ sizeLine ∧ (∀ u ∈ vs, OkU A u) ∧
    ((h.get? b = some { cls := .type "list", data := .seq vs.toArray } ∧ u = .frz { cls := .type "list", data := .seq vs.toArray } (.lst (vs.map toV))) ∨
     (h.get? b = some { cls := .type "tuple", data := .seq vs.toArray } ∧ u = .frz { cls := .type "tuple", data := .seq vs.toArray } (.tup (vs.map toV)))) := by
  obtain ⟨hb, hk⟩ := of_argH q
  obtain ⟨vs, h1, h2, h3⟩ := ar b hb
  refine ⟨hk, vs, h1, h2, ?_⟩
  rcases h3 with e | e
  · rw [argH_at hb hk e, hoOf_lst] at q
    exact .inl ⟨e, (Option.some.inj q).symm⟩
  · rw [argH_at hb hk e, hoOf_tup] at q
    exact .inr ⟨e, (Option.some.inj q).symm⟩
theorem argH_only (ar:∀a∈A,ArgOb h A a):OnlyF (argH K h A):=fun b=>by
 cases q:argH K h A b with
 | none=>exact .inl rfl
 | some u =>
  obtain ⟨_,vs,_,_,⟨_,e⟩ | ⟨_,e⟩⟩:=argH_is ar q
  ·exact .inr ⟨_,_,by rw [e]⟩
  ·exact .inr ⟨_,_,by rw [e]⟩
theorem argH_ok (ar:∀a∈A,ArgOb h A a):HOk P w (argH K h A) h:=fun b u q=>by
 obtain ⟨_,vs,h1,h2,⟨e,rfl⟩ | ⟨e,rfl⟩⟩:=argH_is ar q
 ·exact ⟨e,by rw [List.length_map];exact h1,vs,_,vals_toV h2,e⟩
 ·exact ⟨e,by rw [List.length_map];exact h1,vs,vals_toV h2,_,e,rfl,_,rfl⟩
theorem seq_inj {c c':Value} {vs us:List Value} (e:(some { cls:=c,data:=.seq vs.toArray }:Option Obj)=some { cls:=c',data:=.seq us.toArray }):c=c'∧vs=us:=by
 have e1:=Option.some.inj e
 have e2:c=c':=congrArg Obj.cls e1
 have e3:Data.seq vs.toArray=Data.seq us.toArray:=congrArg Obj.data e1
 injection e3 with e4
 refine ⟨e2,?_⟩
 have e5:=congrArg Array.toList e4
 simpa using e5
theorem argL (KX:K.In h) (ar:∀a∈A,ArgOb h A a) {a:Addr} {vs:List Value} (ha:a∈A) (e:h.get? a=some { cls:=.type "list",data:=.seq vs.toArray }):(∀u∈vs,OkU A u)∧SqL K (argH K h A) a (vs.map toV):=by
 obtain ⟨us,h1,h2,h3⟩:=ar a ha
 have hu:us=vs:=by
  rcases h3 with q | q
  ·rw [e] at q
   exact (seq_inj q).2.symm
  ·rw [e] at q
   exact absurd (Value.type.inj (seq_inj q).1) (by decide)
 subst hu
 refine ⟨h2,?_⟩
 cases hk:K.lookup a with
 | none=>exact .inl (.inr ⟨_,by rw [argH_at ha hk e,hoOf_lst]⟩)
 | some o =>
  have e2:=KX a o hk
  rw [e] at e2
  obtain rfl:=Option.some.inj e2
  exact .inr ⟨_,us.toArray,_,hk,rfl,rfl,rfl,by rw [List.size_toArray];exact h1,by simpa using vals_toV h2⟩
theorem argT (KX:K.In h) (ar:∀a∈A,ArgOb h A a) {a:Addr} {vs:List Value} (ha:a∈A) (e:h.get? a=some { cls:=.type "tuple",data:=.seq vs.toArray }):(∀u∈vs,OkU A u)∧SqT K (argH K h A) a (vs.map toV):=by
 obtain ⟨us,h1,h2,h3⟩:=ar a ha
 have hu:us=vs:=by
  rcases h3 with q | q
  ·rw [e] at q
   exact absurd (Value.type.inj (seq_inj q).1) (by decide)
  ·rw [e] at q
   exact (seq_inj q).2.symm
 subst hu
 refine ⟨h2,?_⟩
 cases hk:K.lookup a with
 | none=>exact .inl (.inr ⟨_,by rw [argH_at ha hk e,hoOf_tup]⟩)
 | some o =>
  have e2:=KX a o hk
  rw [e] at e2
  obtain rfl:=Option.some.inj e2
  exact .inr ⟨_,us.toArray,_,hk,rfl,rfl,by rw [List.size_toArray];exact h1,by simpa using vals_toV h2⟩
mutual
theorem dw_one {Pm:Params} (KX:K.In h) (ar:∀a∈A,ArgOb h A a):∀(d:WData) (v:Value),Well Pm h v d→plW d=true→OkU A v→Dw K (argH K h A) (toV v) d
 | .none,_,x,_,_=>by
  cases x
  exact .non
 | .bool b,_,x,_,_=>by
  cases x
  exact .bl b
 | .int i,_,x,_,_=>by
  cases x
  exact .int i
 | .str s,_,x,_,_=>by
  cases x
  exact .str s
 | .bytes b,_,x,_,_=>by
  cases x
  have z:=Dw.byt (K:=K) (H:=argH K h A) b.toArray
  exact z
 | .list ds,_,x,p,hu=>by
  obtain ⟨a,vs,rfl,ho,hall⟩:=well_list x
  obtain ⟨h2,hs⟩:=argL KX ar hu ho
  exact .lst hs (dw_all KX ar ds _ hall p h2)
 | .tuple ds,_,x,p,hu=>by
  obtain ⟨a,vs,rfl,ho,hall⟩:=well_tuple x
  obtain ⟨h2,hs⟩:=argT KX ar hu ho
  exact .tup hs (dw_all KX ar ds _ hall p h2)
 | .float _,_,_,p,_=>Bool.noConfusion (show false=true from p)
 | .dict _,_,_,p,_=>Bool.noConfusion (show false=true from p)
 | .bytearray _,_,_,p,_=>Bool.noConfusion (show false=true from p)
 | .set _,_,_,p,_=>Bool.noConfusion (show false=true from p)
 | .frozenset _,_,_,p,_=>Bool.noConfusion (show false=true from p)
 | .obj _ _,_,_,p,_=>Bool.noConfusion (show false=true from p)
theorem dw_all {Pm:Params} (KX:K.In h) (ar:∀a∈A,ArgOb h A a):∀(ds:List WData) (vs:List Value),WellAll Pm h vs ds→plWs ds=true→(∀u∈vs,OkU A u)→DwAll K (argH K h A) (vs.map toV) ds
 | [],_,x,_,_=>by
  cases x
  exact .nil
 | d::ds,_,x,p,hu=>by
  obtain ⟨v,vs,rfl,x1,x2⟩:=well_cons x
  have q:plW d=true∧plWs ds=true:=Bool.and_eq_true_iff.mp p
  exact .cons (dw_one KX ar d v x1 q.1 (hu _ (List.mem_cons_self ..))) (dw_all KX ar ds vs x2 q.2 fun u m=>hu u (List.mem_cons_of_mem _ m))
end
end
theorem layable_weight {ds:List WData} (h:WData.layableAll ds=true):∀d∈ds,d.weight≤1048576:=fun d hd =>
 (PySem.W.layableW_iff.mp (List.all_eq_true.mp h d hd)).2.2
theorem encAll_len:∀(cs:List Codec) (a:Codec.denoteAll cs),(Codec.encAll cs a).length=cs.length
 | [],_=>rfl
 | c::cs,a=>by
  show (Codec.encAll cs a.2).length+1=cs.length+1
  rw [encAll_len cs a.2]
end L2
end
namespace L2
open PySem PySem.Spec PyProof.Rows
def Fd (P:Program) (w:World) (K:PySem.W.Frag) (mg:Str→Option Value) (base:Heap) (x:Str) (k:Nat) (ps:List Str) (sp:Sp):Prop :=
 ∃(f:Addr) (fd:FuncData),FnOk P w K mg base CX0 k f fd ps sp∧mg x=some (.ref f)∧PySem.W.keepIn K (.ref f)=true∧Binds K fd ps []
def Md (P:Program) (w:World) (K:PySem.W.Frag) (mg:Str→Option Value) (base:Heap) (x:Str) (C:Addr) (k:Nat) (ps:List Str) (sp:Sp):Prop :=
 ∃(f:Addr) (fd:FuncData),Mk K C f∧FnOk P w K mg base CX0 k f fd ps sp∧mg x=some (.ref C)∧Binds K fd ps []
section
variable {X:Cx} {k:Nat} {C:Addr} {ps:List Str} {sp:Sp} {x:Str} {p pos:Pos} {e:Expr} {es:List Expr} {t:TA} {n:Int}
theorem pe_fn (F:Fd X.prog X.w X.K X.mg X.base x k ps sp) (hr:Room k X.A) (hg:Gl X x) (ha:PA X (e::es) t) (hdb:(x==("__debug__":Str))=false:=by decide)
  (he:starEach (e::es) X.env=(false,eval e X.env)::starEach es X.env:=by rfl) (hpl:(backTo pos (starEach es X.env)).any (·.1)=false:=by rfl) :
  PE X (.Call (.Name x p) (e::es) [] pos) (tCall sp [] E0 t):=by
 obtain ⟨f,fd,F,hm,kp,b⟩:=F
 exact pe_call F hr hg hm kp b .nil pass0 ha hdb he hpl
theorem pe_mk (F:Md X.prog X.w X.K X.mg X.base x C k ps sp) (hr:Room (k+1) X.A) (hg:Gl X x) (ha:PA X (e::es) t) (hdb:(x==("__debug__":Str))=false:=by decide)
  (he:starEach (e::es) X.env=(false,eval e X.env)::starEach es X.env:=by rfl) (hpl:(backTo pos (starEach es X.env)).any (·.1)=false:=by rfl) :
  PE X (.Call (.Name x p) (e::es) [] pos) (tMake C sp [] E0 t):=by
 obtain ⟨f,fd,M,F,hm,b⟩:=F
 exact pe_make M F hr hg hm b .nil pass0 ha hdb he hpl
theorem pe_mk0 (F:Md X.prog X.w X.K X.mg X.base x C k ps sp) (hr:Room (k+1) X.A) (hg:Gl X x) (hdb:(x==("__debug__":Str))=false:=by decide) :
  PE X (.Call (.Name x p) [] [] pos) (tMake C sp [] E0 tNil):=by
 obtain ⟨f,fd,M,F,hm,b⟩:=F
 exact pe_make0 M F hr hg hm b .nil pass0 hdb
theorem pe_gi (hg:Gl X x) (h:∃t,X.mg x=some (.int n t)) (hd:(x==("__debug__":Str))=false:=by decide):PE X (.Name x pos) (tC (.int n)):=by
 obtain ⟨t,e⟩:=h
 exact pe_glob hg e ⟨t,rfl⟩ hd
theorem pe_gt (hg:Gl X x) (h:X.mg x=some (.ref C)) (hd:(x==("__debug__":Str))=false:=by decide):PE X (.Name x pos) (tC (.ref C)):=pe_glob hg h rfl hd
end
section
variable {X:Cx}
def rBitlen:V→List V→Hp→VK→Prop:=fun x xs H Q=>∃i:Int,x=.int i∧xs=[]∧Q (.int ((Builtin.Int.intBits i:Nat):Int)) H
theorem mt_bitlen:MtR X "int.bit_length" rBitlen:=by
 intro pins s σ H x xs v us Q I rx rxs h
 obtain ⟨i,rfl,rfl,q⟩:=h
 obtain ⟨t,rfl⟩:=rx
 cases rxs
 exact PyProof.Rows.call_int_bit_length ⟨.int _,H,I.tok _,⟨_,rfl⟩,q⟩
def NoneOrTup (K:PySem.W.Frag) (H:Hp) (y:V):Prop:=y=.non∨∃p zs,y=.ref p∧SqT K H p zs
theorem eqAt_none {pins:List (Addr×Obj)} {σ:St} {H:Hp} {s:Shared} {A:Around} {y:V} {u:Value} (I:Inv X pins σ H s) (hu:A.units < cLine) (h:NoneOrTup X.K H y) (r:RelV y u) :
  SeqAt.EqAt A s u .none (u==Value.none):=by
 rcases h with rfl | ⟨p,zs,rfl,hs⟩
 ·cases r
  exact eqAt_V (y:=.non) (x:=.non) rfl rfl rfl rfl
 ·cases r
  obtain ⟨its,_,pl,_⟩:=I.tuple hs
  obtain ⟨o,ho,hc,n,hd⟩:=pl
  exact SeqAt.EqAt.tuple_none ⟨o,ho,hc,n,hd⟩ hu
theorem countP_none:∀{ys:List V} {us:List Value},Vals ys us→us.countP (fun u=>u==Value.none)=ys.countP fun y=>decide (y=.non)
 | _,_,.nil=>rfl
 | _,_,.cons r t=>by
  rw [List.countP_cons,List.countP_cons,countP_none t,r.none_iff]
theorem mem_vals:∀{ys:List V} {us:List Value} {u:Value},Vals ys us→u∈us→∃y∈ys,RelV y u
 | _,_,_,.nil,h=>by cases h
 | _,_,_,.cons r t,h=>by
  rcases List.mem_cons.mp h with rfl | h
  ·exact ⟨_,List.mem_cons_self,r⟩
  ·obtain ⟨y,hy,ry⟩:=mem_vals t h
   exact ⟨y,List.mem_cons_of_mem _ hy,ry⟩
def rCountN (K:PySem.W.Frag):V→List V→Hp→VK→Prop:=fun x xs H Q=>∃(a:Addr) (ys:List V),x=.ref a∧xs=[.non]∧SqL K H a ys∧(∀y∈ys,NoneOrTup K H y)∧Q (.int ((ys.countP fun y=>decide (y=.non):Nat):Int)) H
theorem mt_countN (hu:X.A.units+1 < cLine):MtR X "list.count" (rCountN X.K):=by
 intro pins s σ H x xs v us Q I rx rxs h
 obtain ⟨a,ys,rfl,rfl,hs,hall,q⟩:=h
 cases rx
 obtain ⟨u,rfl,ru⟩:=vals1 rxs
 cases ru
 obtain ⟨its,rv,⟨⟨cls,dd,data,sl⟩,n,ho,hc,hdn,hd⟩,hlen⟩:=I.list hs
 simp only at hc hd
 subst hc hd
 refine call_meets PySem.F.slot_list_count ⟨_,ho,rfl⟩ PySem.F.entry_list_count (PySem.F.args_list_count_2 _ _)
  (SeqAt.list_countAt a its.toArray n dd sl .none (fun u=>u==Value.none)) ⟨ho,fun u' hu'=>?_,?_⟩
 ·obtain ⟨y,hy,ry⟩:=mem_vals rv (by simpa using hu')
  exact eqAt_none I hu (hall y hy) ry
 ·refine ⟨.int _,H,I.tok _,⟨_,rfl⟩,?_⟩
  rw [show its.toArray.toList=its from rfl,countP_none rv]
  exact q
def rIndexN (K:PySem.W.Frag):V→List V→Hp→VK→Prop:=fun x xs H Q=>∃(a:Addr) (ys:List V) (j:Nat),x=.ref a∧xs=[.non]∧SqL K H a ys∧(∀y∈ys,NoneOrTup K H y)∧ys[j]?=some .non∧(∀m z,m < j→ys[m]?=some z→z≠.non)∧Q (.int (j:Nat)) H
theorem mt_indexN (hu:X.A.units+1 < cLine):MtR X "list.index" (rIndexN X.K):=by
 intro pins s σ H x xs v us Q I rx rxs h
 obtain ⟨a,ys,j,rfl,rfl,hs,hall,hj,hno,q⟩:=h
 cases rx
 obtain ⟨u,rfl,ru⟩:=vals1 rxs
 cases ru
 obtain ⟨its,rv,⟨⟨cls,dd,data,sl⟩,n,ho,hc,hdn,hd⟩,hlen⟩:=I.list hs
 simp only at hc hd
 subst hc hd
 obtain ⟨u,hu',ru⟩:=rv.get hj
 cases ru
 obtain ⟨hjl,hje⟩:=List.getElem?_eq_some_iff.mp hu'
 have hvl:=rv.length
 have hjs:j < its.toArray.size:=by simpa using hjl
 have hsl:=sizeLine_eq
 refine call_meets PySem.F.slot_list_index ⟨_,ho,rfl⟩ PySem.F.entry_list_index (PySem.F.args_list_index_2 _ _)
  (SeqAt.list_indexAt a its.toArray n dd sl .none (fun u=>u==Value.none) j hjs (by omega) ?_ ?_) ⟨ho,fun u' hu'=>?_,?_⟩
 ·have e1:its.toArray[j]=Value.none:=by simpa using hje
  rw [e1];rfl
 ·intro m hm hmj
  have hml:m < its.length:=by simpa using hm
  have hmy:m < ys.length:=by omega
  have hy':ys[m]?=some ys[m]:=List.getElem?_eq_getElem hmy
  obtain ⟨u2,hu2,ru2⟩:=rv.get hy'
  obtain ⟨_,hme⟩:=List.getElem?_eq_some_iff.mp hu2
  have e1:its.toArray[m]=u2:=by simpa using hme
  rw [e1,ru2.none_iff]
  exact decide_eq_false (hno m _ hmj hy')
 ·obtain ⟨y,hy,ry⟩:=mem_vals rv (by simpa using hu')
  exact eqAt_none I hu (hall y hy) ry
 ·exact ⟨.int (j:Nat),H,I.tok _,⟨_,rfl⟩,q⟩
end
def tFreeze (t:TE):TE:=fun σ H Q=>t σ H fun v H1=>∃d u,v=.ref d∧H1 d=some u∧Mut (some u)∧∀od,Q (.ref d) (upd H1 d (.frz od u))
theorem pe_freeze {X:Cx} {e:Expr} {t:TE} (h:PE X e t):PE X e (tFreeze t):=by
 intro pins s σ H Q I hw
 refine thn (h pins s σ H _ I hw) fun v s1 ⟨x,H1,I1,r,d,u,ex,hd,mu,q⟩=>?_
 subst ex
 obtain ⟨od,I2⟩:=I1.lock hd mu
 exact ⟨.ref d,_,I2,r,q od⟩
theorem keys_ints:∀{ks:List Int} {us:List Value},ks.length=us.length→(∀(j:Nat) (v:Value),us[j]?=some v→∃k,ks[j]?=some k∧∃t,v=Value.int k t)→Vals (ks.map V.int) us
 | [],[],_,_=>.nil
 | [],_::_,h,_=>by cases h
 | _::_,[],h,_=>by cases h
 | k::ks,u::us,h,f=>by
  obtain ⟨k',e,t,rfl⟩:=f 0 u rfl
  cases e
  exact .cons ⟨t,rfl⟩ (keys_ints (by simpa using h) fun j v e=>f (j+1) v (by simpa using e))
def rSortedD:List V→Hp→VK→Prop:=fun vs H Q=>∃(d:Addr) (kvs:List (Key×V)) (ks:List Int),vs=[V.ref d]∧Rd H d (.dK kvs)∧kvs.map (·.1)=ks.map Sum.inl∧ks.length < 64 ∧
 ∀(ns':List Int) (p:Addr),ns'.Perm ks→ns'.Pairwise (·≤·)→H p=none→Q (.ref p) (upd H p (.lst (ns'.map V.int)))
theorem cr_sortedD {X:Cx} (hcalm:X.calm=true):CallR X (.builtin "sorted") rSortedD:=by
 intro pins s σ H vs us Q I r h
 obtain ⟨d,kvs,ks,rfl,hd,hks,h64,q⟩:=h
 rw [Vals.ref1 r]
 obtain ⟨hz,lo,raw,rel,dd⟩:=dk_rd I.hok hd
 obtain ⟨ep,hat⟩:=dd.dictAt
 have hrl:raw.length=ks.length:=by
  have e1:=rel.length
  have e2:=congrArg List.length hks
  rw [List.length_map,List.length_map] at e2
  omega
 have hh:X.A.handled=none:=I.ok.hd hcalm
 refine Calls.call_function_entry PyProof.Rows.kind_sorted PyProof.Rows.plain_sorted PyProof.Rows.entry_sorted (PyProof.Rows.args_sorted1 _) ?_
 unfold Builtin.«sorted»
 refine wpAny_bind (m:=checkCount "sorted" 1 1 _) (wpAny_pure ?_)
 refine wpAny_bind (PySem.W.kdu_collect (A:=X.A.in1) (PySem.W.kdl_dict (knd:=mixKind X.prog X.w) (kvs:=raw) (ep:=ep) lo) hh hat (by rw [sizeLine_eq];omega) fun h' tk acc hk hacc=>?_)
 have hl:acc.toList.length=raw.length:=by rw [Array.length_toList];exact hacc.1
 have hv:Vals (ks.map V.int) acc.toList:=by
  refine keys_ints (by omega) fun j v e=>?_
  obtain ⟨k,x,hx,hk⟩:=hacc.2 j v (by rw [←Array.getElem?_toList];exact e)
  have e3:(raw.map (·.1))[j]?=some k:=by rw [List.getElem?_map,hx];rfl
  rw [←rel.keys,hks,List.getElem?_map] at e3
  cases e4:ks[j]? with
  | none=>rw [e4] at e3;cases e3
  | some z =>
   rw [e4] at e3
   have e5:(Sum.inl z:Key)=k:=Option.some.inj e3
   subst e5
   obtain ⟨t,rfl⟩:=Value.isInt_shape (show Value.isInt z v=true from hk)
   exact ⟨z,rfl,t,rfl⟩
 refine wpAny_bind (wpAny_newList ?_ (by rw [hl,sizeLine_eq];omega))
 have hoL:(h'.push (PyProof.Rows.seqObj "list" acc.toList.toArray 0)).get? h'.objs.size=some (PyProof.Rows.seqObj "list" acc.toList.toArray 0):=Heap.get?_push_size _ rfl
 have hi:=hv.ints
 refine wpAny_bind (wpAny_holding (wpAny_call_entry PyProof.Rows.slot_list_sort ⟨_,hoL,rfl⟩ PyProof.Rows.entry_list_sort (PyProof.Rows.list_sort_tree hoL hi (by omega) fun out ns' a1 a2 a3=>⟨_,rfl,?_⟩) (PyProof.Rows.args_list_sort _)))
 refine wpAny_pure ⟨_,rfl,?_⟩
 obtain ⟨ep',he'⟩:=PyProof.Rows.sortedHeap_at (vs:=acc.toList) (out:=out) hoL
 have hlen:(ns'.map V.int).length≤sizeLine:=by rw [List.length_map,a2.length_eq,sizeLine_eq];omega
 have I1:Inv X pins σ H { s with heap:=h',toks:=tk }:=I.kept hk
 refine ⟨.ref _,upd H h'.objs.size (.lst (ns'.map V.int)),I1.laid (t':=tk) (fun b u e=>?_) (Nat.le_refl _) ⟨hlen,out.toList,ep',vals_of_ints a1,he'⟩,rfl,q ns' _ a2 a3 (I1.hok.fresh (Nat.le_refl _))⟩
 have e2:(h'.push (PyProof.Rows.seqObj "list" acc.toList.toArray 0)).get? b=some u:=Heap.get?_push_of_some _ e
 rw [PyProof.Rows.sortedHeap_old (Nat.ne_of_lt (Heap.lt_size e)) (Heap.lt_size e2)]
 exact e2
section
variable {X:Cx} (K:PySem.W.Frag)
theorem pe_fldK {e:Expr} {f:Str} {pos:Pos} {ta:TE} (he:PE X e ta) (hb:attributeBase e f X.env (eval e X.env)=eval e X.env) (hK:X.K=K:=by rfl):PE X (.Attribute e f pos) (tFld K ta f):=by subst hK;exact pe_fld he hb
theorem ix_listK (hK:X.K=K:=by rfl):IxR X (rIxL K):=by subst hK;exact ix_list
theorem ix_tupK (hK:X.K=K:=by rfl):IxR X (rIxT K):=by subst hK;exact ix_tup
theorem sl_listK (hK:X.K=K:=by rfl):SlR X (rSlL K):=by subst hK;exact sl_list
theorem call_lenK (hK:X.K=K:=by rfl):CallR X (.builtin "len") (fun xs H Q=>∃p ys,xs=[.ref p]∧(SqL K H p ys∨SqT K H p ys)∧Q (.int ys.length) H):=by subst hK;exact call_len_seq
theorem cr_sumK (hc:X.calm=true) (hK:X.K=K:=by rfl):CallR X (.builtin "sum") (rSum K):=by subst hK;exact cr_sum hc
theorem cr_maxK (hc:X.calm=true) (hK:X.K=K:=by rfl):CallR X (.builtin "max") (rMax K):=by subst hK;exact cr_max hc
theorem call_listK (hK:X.K=K:=by rfl):CallR X (.type "list") (fun xs H Q=>∃p ys,xs=[.ref p]∧(SqL K H p ys∨SqT K H p ys)∧∀l,H l=none→Q (.ref l) (upd H l (.lst ys))):=by subst hK;exact call_list_of
theorem call_tupleK (hK:X.K=K:=by rfl):CallR X (.type "tuple") (fun xs H Q=>∃p ys,xs=[.ref p]∧((SqL K H p ys∧∀l,H l=none→Q (.ref l) (upd H l (.tup ys)))∨(SqT K H p ys∧Q (.ref p) H))):=by subst hK;exact call_tuple_of
theorem mt_countNK (hu:X.A.units+1 < cLine) (hK:X.K=K:=by rfl):MtR X "list.count" (rCountN K):=by subst hK;exact mt_countN hu
theorem mt_indexNK (hu:X.A.units+1 < cLine) (hK:X.K=K:=by rfl):MtR X "list.index" (rIndexN K):=by subst hK;exact mt_indexN hu
theorem pe_bmK {o e:Expr} {es:List Expr} {to:TE} {t:TA} {name:Str} {apos cpos:Pos} {T id:String} {r:V→List V→Hp→VK→Prop} (pa:PlainAttrs T) (slot:Slot T name id) (hty:typeOf (.builtin id)=pure (.type "method_descriptor")) (hm:MtR X id r) (ho:PE X o to) (ha:PA X (e::es) t) (hK:X.K=K:=by rfl)
  (hbase:attributeBase o name X.env (eval o X.env)=eval o X.env:=by rfl)
  (hfew:((backTo cpos (starEach (e::es) X.env)).all (fun x=>!x.1)&&(backToKw cpos (keywordEach [] X.env)).all (fun x=>x.1.isSome)
  &&decide ((e::es).length+([]:List Keyword).length+(if ([]:List Keyword).isEmpty then 0 else 1) < 30))=true:=by rfl)
  (hline:(apos.endLine==cpos.line)=true:=by rfl) (hs:starEach (e::es) X.env=(false,eval e X.env)::starEach es X.env:=by rfl) (hplain:(backTo cpos (starEach es X.env)).any (·.1)=false:=by rfl) :
  PE X (.Call (.Attribute o name apos) (e::es) [] cpos) (tBM K T r to t):=by subst hK;exact pe_bm pa slot hty hm ho ha hbase hfew hline hs hplain
theorem pe_bm0K {o:Expr} {to:TE} {name:Str} {apos cpos:Pos} {T id:String} {r:V→List V→Hp→VK→Prop} (pa:PlainAttrs T) (slot:Slot T name id) (hty:typeOf (.builtin id)=pure (.type "method_descriptor")) (hm:MtR X id r) (ho:PE X o to) (hK:X.K=K:=by rfl)
  (hbase:attributeBase o name X.env (eval o X.env)=eval o X.env:=by rfl) (hline:(apos.endLine==cpos.line)=true:=by rfl):PE X (.Call (.Attribute o name apos) [] [] cpos) (tBM0 K T r to):=by subst hK;exact pe_bm0 pa slot hty hm ho hbase hline
theorem pi_listK {tg l:Expr} {tl:TE} (hl:PE X l tl) (hK:X.K=K:=by rfl):PI X tg l (iList K tl):=by subst hK;exact pi_list hl
theorem pi_enumK {e:Expr} {ta:TA} {p pos tpos:Pos} {elts:List Expr} {kk:Nat} (hg:Gl X "enumerate") (hm:X.mg "enumerate"=none) (ha:PA X [e] ta) (hK:X.K=K:=by rfl) (hs:starEach [e] X.env=[(false,eval e X.env)]:=by rfl) :
  PI X (.Tuple elts kk tpos) (.Call (.Name "enumerate" p) [e] [] pos) (iEnum K ta):=by subst hK;exact pi_enum hg hm ha hs
theorem pi_zipK {e e2:Expr} {ta:TA} {p pos tpos:Pos} {elts:List Expr} {kk:Nat} (hg:Gl X "zip") (hm:X.mg "zip"=none) (ha:PA X [e,e2] ta) (hK:X.K=K:=by rfl)
  (hs:starEach [e,e2] X.env=(false,eval e X.env)::starEach [e2] X.env:=by rfl) (hpl:(backTo pos (starEach [e2] X.env)).any (·.1)=false:=by rfl) :
  PI X (.Tuple elts kk tpos) (.Call (.Name "zip" p) [e,e2] [] pos) (iZip K ta):=by subst hK;exact pi_zip hg hm ha hs hpl
theorem ps_fldK {o value:Expr} {f:Str} {pos pos':Pos} {ta tv:TE} (ha:PE X o ta) (hv:PE X value tv) (hs:swapsWith value (some (.Attribute o f pos')) pos.line X.env=pure false) (hK:X.K=K:=by rfl):PS X (.Assign [.Attribute o f pos'] value pos) (sFld K ta tv f):=by subst hK;exact ps_fld ha hv hs
theorem ps_fldaugK {o value:Expr} {f:Str} {pos tpos:Pos} {ta tv:TE} {op:Operator} {rd:V→V→Hp→VK→Prop} (ha:PE X o ta) (hv:PE X value tv) (hop:InOp X op rd) (hK:X.K=K:=by rfl):PS X (.AugAssign (.Attribute o f tpos) op value pos) (sFldAug K ta tv rd f):=by subst hK;exact ps_fldaug ha hv hop
theorem pg_tupK {pos:Pos} {es:List Expr} {k:Nat} {t:TGs} {n:Nat} (hc:X.calm=true) (h:PGs X es t) (hK:X.K=K:=by rfl)
  (hn:(assignEach es X.env).length=n:=by rfl) (hst:(assignEach es X.env).findIdx? (·.1)=none:=by rfl):PG X (.Tuple es k pos) (gTup K n t):=by subst hK;exact pg_tup hc h hn hst
end
theorem for_it {J:It} {n:Nat} {g:TG} {tb:TS} {D:Ends} {σ:St} {H:Hp} (Pv:Nat→St→Hp→Prop) (h0:Pv 0 σ H) (hgo:∀i σ H,i < n→Pv i σ H→J.go i H) (hst:∀σ H,Pv n σ H→J.stop n H)
  (hs:∀i x σ H H',i < n→Pv i σ H→J.yld i H x H'→g x σ H' fun σ2 H2=>tb { D with nx:=Pv (i+1),ct:=Pv (i+1),bk:=D.nx } σ2 H2) (hd:∀σ H,Pv n σ H→D.nx σ H) :
  ∃W:Nat→Nat→St→Hp→Prop,(∃m,W 0 m σ H)∧∀i m σ H,W i m σ H →
   (J.stop i H∧D.nx σ H)∨(J.go i H∧∃N:St→Hp→Prop,(∀σ' H',N σ' H'→∃m',m' < m∧W (i+1) m' σ' H')∧∀x H',J.yld i H x H'→g x σ H' fun σ2 H2=>tb { D with nx:=N,ct:=N,bk:=D.nx } σ2 H2):=by
 refine ⟨fun i m σ H=>m=n - i∧i≤n∧Pv i σ H,⟨n,by simp,Nat.zero_le _,h0⟩,?_⟩
 rintro i m σ H ⟨rfl,hi,p⟩
 by_cases hlt:i < n
 ·exact .inr ⟨hgo i σ H hlt p,Pv (i+1),fun σ' H' p'=>⟨n - (i+1),by omega,rfl,hlt,p'⟩,fun x H' y=>hs i x σ H H' hlt p y⟩
 ·have e:i=n:=by omega
  subst e
  exact .inl ⟨hst σ H p,hd σ H p⟩
theorem lc_it {J:It} {n:Nat} {g:TG} {tt:TT} {te:TE} {vs:List Nat} {σ:St} {H1:Hp} {D:Addr} {Qd:Hp→Prop} (Pv:Nat→Hp→Prop) (h0:Pv 0 (upd H1 D (.lst []))) (hgo:∀i H,i < n→Pv i H→J.go i H) (hst:∀H,Pv n H→J.stop n H)
  (hs:∀i x H H',i < n→Pv i H→J.yld i H x H'→g x (wipe σ vs) H' fun σ2 H2=>wipe σ2 vs=wipe σ vs∧tt σ2 H2 fun b H3 =>
   if b=true then te σ2 H3 fun y H4=>∃acc,H4 D=some (.lst acc)∧acc.length < sizeLine∧Pv (i+1) (upd H4 D (.lst (acc++[y]))) else Pv (i+1) H3) (hd:∀H,Pv n H→Qd H) :
  ∃W:Nat→Nat→Hp→Prop,(∃m,W 0 m (upd H1 D (.lst [])))∧∀i m H,W i m H →
   (J.stop i H∧Qd H)∨(J.go i H∧∃Nx:Hp→Prop,(∀H',Nx H'→∃m',m' < m∧W (i+1) m' H')∧∀x H',J.yld i H x H'→g x (wipe σ vs) H' fun σ2 H2=>wipe σ2 vs=wipe σ vs∧tt σ2 H2 fun b H3 =>
    if b=true then te σ2 H3 fun y H4=>∃acc,H4 D=some (.lst acc)∧acc.length < sizeLine∧Nx (upd H4 D (.lst (acc++[y]))) else Nx H3):=by
 refine ⟨fun i m H=>m=n - i∧i≤n∧Pv i H,⟨n,by simp,Nat.zero_le _,h0⟩,?_⟩
 rintro i m H ⟨rfl,hi,p⟩
 by_cases hlt:i < n
 ·exact .inr ⟨hgo i H hlt p,Pv (i+1),fun H' p'=>⟨n - (i+1),by omega,rfl,hlt,p'⟩,fun x H' y=>hs i x H H' hlt p y⟩
 ·have e:i=n:=by omega
  subst e
  exact .inl ⟨hst H p,hd H p⟩
end L2
namespace L2
open PySem PySem.Spec PyProof.Rows
section
variable {X:Cx} {K:PySem.W.Frag}
def nMet (ns:List Int):Nat:=(PyProof.Rows.firstMet (fun i=>ns.getD i 0) ns.length).length
theorem cr_setL (hcalm:X.calm=true) (hK:X.K=K:=by rfl):CallR X (.type "set") (fun xs H Q=>∃p ns,xs=[V.ref p]∧SqL K H p (ns.map V.int)∧ns.length≤1000∧∀l S,H l=none→Q (.ref l) (upd H l (.set S (nMet ns)))):=by
 subst hK
 intro pins s σ H xs us Q I r h
 obtain ⟨p,ns,rfl,hs,hl,q⟩:=h
 rw [Vals.ref1 r]
 obtain ⟨its,rv,pl,hz⟩:=I.list hs
 have hlen:=rv.length
 rw [List.length_map] at hlen
 have hi:=rv.ints
 have hsz:its.toArray.size=ns.length:=by rw [List.size_toArray];exact hlen.symm
 refine PySem.call_set_list (l:=p) (items:=its.toArray) (ns:=ns) (I.ok.hd hcalm) pl.isList hi (by rw [hsz];unfold scanBound;omega) fun h' tk hS hk=>?_
 rw [hsz] at hS
 exact ⟨.ref _,upd H s.heap.objs.size (.set _ _),I.laid (t':=tk) (fun b u e=>hk b u (Heap.lt_size e) e) (Nat.le_refl _) hS,rfl,q _ _ (I.hok.fresh (Nat.le_refl _))⟩
theorem cr_lenS:CallR X (.builtin "len") (fun xs H Q=>∃p S n,xs=[V.ref p]∧H p=some (.set S n)∧Q (.int (n:Nat)) H):=by
 intro pins s σ H xs us Q I r h
 obtain ⟨p,S,n,rfl,hp,q⟩:=h
 rw [Vals.ref1 r]
 obtain ⟨o,es,ep,t,ho,hex,hd,_,_,hb,hf,hn⟩:=(show s.heap.SetOf (intKind X.prog X.w) p S n from I.hok p _ hp)
 subst hn
 have hb':es.size < 4096:=hb
 refine call_len_set ho hex hd hf (by omega) ⟨.int _,H,?_,⟨_,rfl⟩,q⟩
 exact I.tok _
theorem op_in_seqK (K:PySem.W.Frag) (hK:X.K=K:=by rfl):OpR X (compareOp .In) (rIn K false):=by subst hK;exact op_in_seq
end
theorem dedup_len (l:List Int):(l.foldl PyProof.Rows.step_dedup []).length=l.eraseDups.length:=by
 have key:∀(n:Nat) (l acc:List Int),l.length≤n→(l.foldl PyProof.Rows.step_dedup acc)=acc++((l.filter fun x=>!acc.contains x).eraseDups):=by
  intro n
  induction n with
  | zero =>
   intro l acc hl
   have:l=[]:=List.eq_nil_of_length_eq_zero (by omega)
   subst this
   simp
  | succ n ih =>
   intro l acc hl
   cases l with
   | nil=>simp
   | cons a l =>
    rw [List.foldl_cons]
    have hl':l.length≤n:=by simpa using hl
    unfold PyProof.Rows.step_dedup
    by_cases h:acc.any (·==a)=true
    ·rw [if_pos h]
     have hc:acc.contains a=true:=by
      rw [List.contains_eq_any_beq]
      rw [List.any_eq_true] at h ⊢
      obtain ⟨x,hx,e⟩:=h
      exact ⟨x,hx,by rw [beq_iff_eq] at e ⊢;exact e.symm⟩
     have:=ih l acc hl'
     unfold PyProof.Rows.step_dedup at this
     rw [this,List.filter_cons,if_neg (by rw [hc];decide)]
    ·rw [if_neg h]
     have hc:acc.contains a=false:=by
      rw [←Bool.not_eq_true]
      intro q
      apply h
      rw [List.contains_eq_any_beq] at q
      rw [List.any_eq_true] at q ⊢
      obtain ⟨x,hx,e⟩:=q
      exact ⟨x,hx,by rw [beq_iff_eq] at e ⊢;exact e.symm⟩
     have:=ih l (acc++[a]) hl'
     unfold PyProof.Rows.step_dedup at this
     rw [this,List.filter_cons,if_pos (by rw [hc];rfl),List.eraseDups_cons,List.append_assoc,List.filter_filter]
     have hf:(l.filter fun x=>!(acc++[a]).contains x)=l.filter fun x=>!x==a&&!acc.contains x:=by
      apply List.filter_congr
      intro x _
      rw [List.contains_eq_any_beq,List.any_append,List.contains_eq_any_beq]
      simp [Bool.not_or,Bool.and_comm]
     rw [hf]
     rfl
 have:=key l.length l [] (Nat.le_refl _)
 rw [this,List.nil_append]
 congr 2
 apply List.filter_eq_self.mpr
 intro x _
 rfl
theorem nMet_eq (ns:List Int):nMet ns=ns.eraseDups.length:=by
 unfold nMet PyProof.Rows.firstMet
 have:(List.range ns.length).map (fun i=>ns.getD i 0)=ns:=by
  apply List.ext_getElem?
  intro i
  rw [List.getElem?_map]
  by_cases h:i < ns.length
  ·rw [List.getElem?_range h,List.getElem?_eq_getElem h]
   simp [List.getD_eq_getElem?_getD,List.getElem?_eq_getElem h]
  ·rw [List.getElem?_eq_none (by simpa using h),List.getElem?_eq_none (by omega)]
   rfl
 rw [this,dedup_len]
theorem eraseDups_map_nat (l:List Nat):(l.map fun (n:Nat)=>(n:Int)).eraseDups=l.eraseDups.map fun (n:Nat)=>(n:Int):=by
 have key:∀(n:Nat) (l:List Nat),l.length≤n→(l.map fun (n:Nat)=>(n:Int)).eraseDups=l.eraseDups.map fun (n:Nat)=>(n:Int):=by
  intro n
  induction n with
  | zero =>
   intro l hl
   have:l=[]:=List.eq_nil_of_length_eq_zero (by omega)
   subst this;rfl
  | succ n ih =>
   intro l hl
   cases l with
   | nil=>rfl
   | cons a l =>
    rw [List.map_cons,List.eraseDups_cons,List.eraseDups_cons,List.map_cons,List.filter_map]
    congr 1
    have hf:(l.filter ((fun b=>!(b==(a:Int))) ∘ fun (n:Nat)=>(n:Int)))=l.filter fun b=>!(b==a):=by
     apply List.filter_congr
     intro x _
     show (!(((x:Nat):Int)==(a:Int)))=!(x==a)
     congr 1
     rw [Bool.eq_iff_iff,beq_iff_eq,beq_iff_eq]
     omega
    rw [hf]
    refine ih _ ?_
    have:=List.length_filter_le (fun b=>!(b==a)) l
    have:l.length≤n:=by simpa using hl
    omega
 exact key l.length l (Nat.le_refl _)
end L2
set_option maxHeartbeats 4000000
namespace L2
open PySem PySem.Spec PyProof.Rows
section
variable {X:Cx} {pins:List (Addr×Obj)} {σ:St} {H:Hp} {s:Shared} {h':Heap} {Pt c':Addr} {ps more:Array Value} {φ:Heap→Prop}
theorem Inv.lam {t':Nat} (I:Inv X pins σ H s) (hP:H Pt=some (.tbl ps)) (k:∀b u,b≠Pt→s.heap.get? b=some u→h'.get? b=some u) (hP':h'.get? Pt=some { cls:=.none,data:=.fields (ps++more) }) (hc:s.heap.objs.size≤c')
  (new:∀H',ObjOk X.prog X.w H' h' c' (.ext φ)):Inv X pins σ (upd (upd H Pt (.tbl (ps++more))) c' (.ext φ)) { s with heap:=h',toks:=t' }:=by
 have hn:H c'=none:=I.hok.fresh hc
 have hPc:Pt≠c':=ne_of_none hP hn
 have upc:∀b,H b=none→b≠c'→(upd (upd H Pt (.tbl (ps++more))) c' (.ext φ)) b=none:=fun b q nb=>by
  rw [upd_ne nb,upd_ne (fun e=>by rw [e,hP] at q;cases q)];exact q
 have ups:∀b u,H b=some u→(∀qs,u≠.tbl qs)→(upd (upd H Pt (.tbl (ps++more))) c' (.ext φ)) b=some u:=fun b u q nt=>by
  rw [upd_ne (ne_of_none q hn),upd_ne (fun e=>by rw [e,hP] at q;exact nt ps (Option.some.inj q).symm)];exact q
 have oldlt:∀b u,s.heap.get? b=some u→b≠c':=fun b u q=>Nat.ne_of_lt (Nat.lt_of_lt_of_le (Heap.lt_size q) hc)
 refine I.un ⟨fun b o q n _ _=>k b o (fun e=>by rw [e,hP] at n;cases n) q,fun b o q n _ _=>⟨o.slots,k b o (fun e=>by rw [e,hP] at n;cases n) q⟩,fun b o q n _=>upc b n (oldlt b o q),fun b o q _=>?_,fun b xs q=>ups b _ q (by intro qs z;cases z),fun b o u q=>ups b _ q (by intro qs z;cases z),fun b qs q=>?_⟩ (fun b u q=>?_)
 ·by_cases e:b=Pt
  ·subst e;exact ⟨_,hP'⟩
  ·exact ⟨o,k b o e q⟩
 ·by_cases e:b=Pt
  ·subst e
   rw [hP] at q
   cases q
   exact ⟨more,by rw [upd_ne hPc,upd_same]⟩
  ·refine ⟨#[],?_⟩
   rw [upd_ne (ne_of_none q hn),upd_ne e,q];simp
 ·by_cases e:b=c'
  ·subst e
   rw [upd_same] at q
   cases q
   exact new _
  ·rw [upd_ne e] at q
   by_cases e2:b=Pt
   ·subst e2
    rw [upd_same] at q
    cases q
    exact hP'
   ·rw [upd_ne e2] at q
    refine (I.hok b u q).stay (fun c v hcb r=>k c v ?_ r) (fun c r=>ups c _ r (by intro qs z;cases z)) fun c xs r=>ups c _ r (by intro qs z;cases z)
    rcases hcb with rfl | hcb
    ·exact e2
    ·intro z;rw [z,hP] at hcb;cases hcb
end
def codeOk (qual:Str) (c':Addr):Heap→Prop:=fun h=>h.CodeRec (.ref c') qual
def TabAt (H:Hp) (Pt:Addr) (pos:Pos) (qual:Str):Prop :=
 H Pt=some (.tbl #[])∨∃c',H Pt=some (.tbl #[rawInt pos.line,rawInt pos.col,.ref c'])∧H c'=some (.ext (codeOk qual c'))
structure LamHd (K:PySem.W.Frag) (mg:Str→Option Value) (base:Heap) (c Pt:Addr):Prop where
 hd:PySem.W.CodeHd base c Pt
 bt:∃bm o,mg "__builtins__"=some (.ref bm)∧bm≠builtinsNs∧bm≠mainGlobals∧base.get? bm=some o∧o.cls=.type "module"∧o.dict=some builtinsNs∧o.data=.plain
 np:base.get? Pt=none
section
variable {X:Cx} {pins:List (Addr×Obj)} {σ:St} {H:Hp} {s:Shared} {Pt c:Addr}
theorem codeOk_new {P:Program} {w:World} {H':Hp} {h:Heap} {c':Addr} {qual:Str} (hr:h.CodeRec (.ref c') qual):ObjOk P w H' h c' (.ext (codeOk qual c')):=by
 obtain ⟨c2,o,vs,t,e,ho,hd,hv⟩:=id hr
 cases e
 refine ⟨hr,⟨o,ho⟩,fun h1 h2 q k=>?_⟩
 obtain ⟨c3,o3,vs3,t3,e3,ho3,hd3,hv3⟩:=q
 cases e3
 exact ⟨_,o3,vs3,t3,rfl,k _ ho3,hd3,hv3⟩
end
end L2
namespace L2
open PySem PySem.Spec PyProof.Rows
abbrev Cx.lamb (X:Cx) (A0:Around) (s:Shared) (H:Hp) (lenv:Env) (N:List Str):Cx :=
 { X with A:=A0.deeper lenv,N:=N,s_0:=s,H_0:=H,env:=lenv,outer:=X.stack,stack:=lenv::X.stack,ex:=[],fn:=fun _=>false,calm:=true,pn:=[],xe:=fun _ _=>False }
structure LamOk (sc scope:Scope) (p:Str) (names:List Str):Prop where
 kind:scope.kind=.function
 co:scope.isCoroutine=false
 gen:scope.isGenerator=false
 par:scope.names.lookup p=some .local
 nocell:∀y∈scope.names,y.2≠.cell
 loc:∀y∈names,scope.names.lookup y≠some .local
 free:∀y∈scope.names,y.2=.free→sc.names.lookup y.1=some .cell∨sc.names.lookup y.1=some .free
 uniq:∀y∈scope.names,scope.names.lookup y.1=some y.2
 np:p ∉ names
section
variable {X:Cx} {pins:List (Addr×Obj)} {σ:St} {H:Hp} {s:Shared}
def lamSt (σ:St) (v:V) (js:List Nat):St:=some v::js.map fun j=>σ.getD j none
theorem lam_start {A0:Around} {scope:Scope} {p qual:Str} {names:List Str} {js:List Nat} {f:Addr} {cd u:Value} {v:V} {h1:Heap} {tk:Nat} (I:Inv X pins σ H s) (ok:LamOk X.env.scope scope p names) (hA:A0.frames=some X.stack) (hh:A0.handled=none)
  (hjs:∀(i j:Nat) (y:Str),js[i]?=some j→names[i]?=some y→X.N[j]?=some y) (hlen:js.length=names.length) (rv:RelV v u)
  (hns:h1.Ns s.heap.objs.size (fun x=>([(p,u)]:List (Str×Value)).reverse.lookup x)) (kp:∀b o,s.heap.get? b=some o→h1.get? b=some o) :
  Inv (X.lamb A0 s H (PySem.W.envX qual scope s.heap.objs.size f cd (cloFrom X.env.cells scope.names [])) (p::names)) [] (lamSt σ v js) H { s with heap:=h1,toks:=tk }:=by
 have hfree:∀y∈scope.names,y.2=.free→∃c,X.env.cells.lookup y.1=some c:=fun y hy e=>by
  rcases ok.free y hy e with k | k
  ·exact I.ok.has _ (.inl k)
  ·exact I.ok.has _ (.inr k)
 have cm:∀{y c},(y,c)∈cloFrom X.env.cells scope.names []→X.env.cells.lookup y=some c:=fun {y c} hm=>by
  rcases cloFrom_mem hm with hm | ⟨h1,rfl⟩
  ·cases hm
  ·obtain ⟨c,hc⟩:=hfree _ h1 rfl
   rw [hc];rfl
 have lk:∀{y c},(cloFrom X.env.cells scope.names []).lookup y=some c→X.env.cells.lookup y=some c:=fun {y c} e=>cm (PySem.mem_of_lookup e)
 have noA:∀b:Addr,b ∉ ([]:List Addr):=fun b z=>nomatch z
 have okB:(X.lamb A0 s H (PySem.W.envX qual scope s.heap.objs.size f cd (cloFrom X.env.cells scope.names [])) (p::names)).Ok:=by
  refine ⟨I.ok.mod,ok.kind,rfl,rfl,Nat.le_refl _,fun y z c e1 e2=>I.ok.inj y z c (lk e1) (lk e2),fun y hy=>?_,fun y c z=>(by cases z),fun _=>hh,Around.frames_deeper hA,.inr ⟨rfl,rfl⟩,fun b hb=>absurd hb (noA b),I.bs,Nat.le_trans I.ok.bsz I.sz,fun b _ _=>noA b,fun b hb=>absurd hb (noA b),I.stack,I.stkFree⟩
  have hy':scope.names.lookup y=some .cell∨scope.names.lookup y=some .free:=hy
  rcases hy' with hy' | hy'
  ·exact absurd rfl (ok.nocell _ (PySem.mem_of_lookup hy'))
  ·exact mem_lookup (cloFrom_has (cells:=X.env.cells) (acc:=[]) (PySem.mem_of_lookup hy'))
 refine ⟨okB,rfl,I.bare,Un.kept kp,⟨_,hns,fun i y av e1 e2 e3=>?_⟩,fun y c e=>?_,I.hok.fresh (Nat.le_refl _),fun y c e=>I.freeC y c (lk e),fun q hq=>absurd (show q∈([]:List (Addr×Obj))++[] from hq) (by simp),I.hok.kept kp,?_⟩
 ·cases i with
  | zero =>
   have ey:p=y:=Option.some.inj e1
   subst ey
   have ev:v=av:=Option.some.inj (Option.some.inj e2)
   subst ev
   refine ⟨u,rv,.inl ⟨ok.par,?_⟩⟩
   show ([(p,u)]:List (Str×Value)).lookup p=some u
   simp
  | succ i =>
   have e1':names[i]?=some y:=e1
   have e2':(js.map fun j=>σ.getD j none)[i]?=some (some av):=e2
   rw [List.getElem?_map] at e2'
   cases ej:js[i]? with
   | none=>rw [ej] at e2';cases e2'
   | some j =>
    rw [ej] at e2'
    have e2'':σ.getD j none=some av:=Option.some.inj e2'
    have hσ:σ[j]?=some (some av):=by
     rw [List.getD_eq_getElem?_getD] at e2''
     cases q:σ[j]? with
     | none=>rw [q] at e2'';cases e2''
     | some o=>rw [q] at e2'';exact congrArg some e2''
    have hNj:=hjs i j y ej e1'
    have hfr:scope.names.lookup y=some .free:=by
     have e3':scope.names.lookup y=some .local∨scope.names.lookup y=some .cell∨scope.names.lookup y=some .free:=e3
     rcases e3' with q | q | q
     ·exact absurd q (ok.loc y (List.mem_of_getElem? e1'))
     ·exact absurd rfl (ok.nocell _ (PySem.mem_of_lookup q))
     ·exact q
    obtain ⟨m,hn,hl⟩:=I.loc
    have hvis:Vis X.env.scope y:=(ok.free _ (PySem.mem_of_lookup hfr) rfl).elim (fun k=>.inr (.inl k)) (fun k=>.inr (.inr k))
    obtain ⟨w',r,q⟩:=hl j y av hNj hσ hvis
    obtain ⟨c,hc⟩:=mem_lookup (cloFrom_has (cells:=X.env.cells) (acc:=[]) (PySem.mem_of_lookup hfr))
    refine ⟨w',r,.inr ⟨.inr hfr,c,hc,?_⟩⟩
    rcases q with ⟨k,_⟩ | ⟨_,c',e',z⟩
    ·have k':X.env.scope.names.lookup y=some .local:=k
     rcases ok.free _ (PySem.mem_of_lookup hfr) rfl with q' | q' <;> rw [show X.env.scope.names.lookup y=_ from q'] at k' <;> cases k'
    ·have hc2:=lk hc
     rw [hc2] at e'
     cases e'
     exact z.keeps kp
 ·obtain ⟨w',z⟩:=I.cell y c (lk e)
  exact ⟨w',z.keeps kp⟩
 ·show (some v::js.map _).length=(p::names).length
  rw [List.length_cons,List.length_cons,List.length_map,hlen]
theorem key_call {A0:Around} {params:Arguments} {body:Expr} {scope:Scope} {p qual:Str} {names:List Str} {js:List Nat} {f c':Addr} {pm ctv u:Value} {v:V} {tb:TE} {Q:VK} {E:Value→Shared→Prop} (I:Inv X pins σ H s) (ok:LamOk X.env.scope scope p names) (hA:A0.frames=some X.stack)
  (hh:A0.handled=none) (hroom:A0.depth < recursionLimit) (hjs:∀(i j:Nat) (y:Str),js[i]?=some j→names[i]?=some y→X.N[j]?=some y) (hlen:js.length=names.length)
  (hf:s.heap.get? f=some (PySem.W.kla_obj "<lambda>" qual params body scope (cloFrom X.env.cells scope.names []) pm c' ctv)) (hrec:s.heap.CodeRec (.ref c') qual) (rv:RelV v u)
  (hbind:∀u,bindArgs (PySem.W.kla_fn "<lambda>" qual params body scope (cloFrom X.env.cells scope.names []) pm (.ref c') ctv) ⟨[u],[]⟩=pure [(p,u)])
  (hb:∀(s:Shared) (H:Hp) (L:Addr) (cl:List (Str×Addr)),PE (X.lamb A0 s H (PySem.W.envX qual scope L f (.ref c') cl) (p::names)) body tb)
  (h:tb (lamSt σ v js) H Q):wpAny (model X.prog X.w) A0 (call (.ref f) [u]) (EP X pins σ Q) E s:=by
 refine wpAny_call (PySem.W.kla_callFunE hroom hf rfl ok.co ok.gen rfl hrec ?_)
 rw [hbind]
 refine wpAny_pure (wpAny_newFunctionEnv ok.nocell (fun y hy=>?_) (fun h1 hns hsb=>⟨I.nolimit.fresh _ hsb,?_⟩) ok.kind)
 ·rw [List.mem_singleton.mp hy];exact ok.par
 ·have kp:∀b o,s.heap.get? b=some o→h1.get? b=some o:=fun b o e=>hsb.extBut b o (Nat.ne_of_lt (Heap.lt_size e)) (Heap.get?_push_of_some _ e)
  have I1:=lam_start (A0:=A0) (qual:=qual) (f:=f) (cd:=.ref c') (tk:=s.toks+1) I ok hA hh hjs hlen rv hns kp
  refine PySem.W.kla_codeExpr (wpAny_mono (hb _ _ _ _ [] _ _ H Q I1 h) (fun x s' q=>?_) fun _ _ z=>z.elim)
  obtain ⟨v',H',J,r',q'⟩:=q
  exact ⟨v',H',I.call' J.os J.base J.hok J.bare (fun b hb=>nomatch hb),r',q'⟩
end
end L2
namespace L2
open PySem PySem.Spec PyProof.Rows
section
variable {X:Cx} {pins:List (Addr×Obj)} {σ:St}
def FirstLeast (kf:Nat→Int) (n i:Nat):Prop:=i < n∧∀j,j < n→kf i≤kf j∧(j < i→kf i < kf j)
theorem FirstLeast.one (kf:Nat→Int):FirstLeast kf 1 0:=⟨by decide,fun j hj=>by
 have e:j=0:=by omega
 subst e
 exact ⟨Int.le_refl _,fun h=>absurd h (Nat.lt_irrefl _)⟩⟩
theorem FirstLeast.new {kf:Nat→Int} {n i:Nat} (h:FirstLeast kf n i) (c:kf n < kf i):FirstLeast kf (n+1) n:=⟨by omega,fun j hj=>by
 by_cases e:j=n
 ·subst e;exact ⟨Int.le_refl _,fun h=>absurd h (Nat.lt_irrefl _)⟩
 ·have:=(h.2 j (by omega)).1
  exact ⟨by omega,fun _=>by omega⟩⟩
theorem FirstLeast.old {kf:Nat→Int} {n i:Nat} (h:FirstLeast kf n i) (c:¬ kf n < kf i):FirstLeast kf (n+1) i:=⟨by have:=h.1;omega,fun j hj=>by
 by_cases e:j=n
 ·subst e;exact ⟨by omega,fun z=>by have:=h.1;omega⟩
 ·exact h.2 j (by omega)⟩
theorem FpOk.pinned {H:Hp} {b:Addr} (h:FpOk X pins H b) {H':Hp} (hn:H' b=none):FpOk X pins H' b:=⟨hn,h.2⟩
def KeyTurn (X:Cx) (pins:List (Addr×Obj)) (σ:St) (f:Addr) (xs:List V) (Pv:Nat→Hp→Prop) (kf:Nat→Int):Prop :=
 ∀(j:Nat) (x:V) (u:Value) (more:List (Addr×Obj)) (s:Shared) (H:Hp),xs[j]?=some x→RelV x u→Inv X (pins++more) σ H s→Pv j H →
  wpAny (model X.prog X.w) X.A.in1 (call (.ref f) [u]) (EP X (pins++more) σ fun r H'=>r=.int (kf j)∧Pv (j+1) H') (fun _ _=>False) s
theorem pin_back {more:List (Addr×Obj)} {H:Hp} {s:Shared} {b:Addr} {o:Obj} (I:Inv X (pins++more) σ H s) (hm:(b,o)∈more):s.heap.get? b=some o∧H b=none :=
 let q:=I.pin (b,o) (List.mem_append_right _ (List.mem_append_right _ hm));⟨q.1,q.2.1⟩
theorem min_loop {a f Ia S:Addr} {xs:List V} {Pv:Nat→Hp→Prop} {kf:Nat→Int} {Q:VK} {kw:List (Str×Value)} (hcalm:X.calm=true) (hIS:Ia≠S) (hl:∀j H,j≤xs.length→Pv j H→SqL X.K H a xs) (turn:KeyTurn X pins σ f xs Pv kf)
  (fin:∀i x H,xs[i]?=some x→FirstLeast kf xs.length i→Pv xs.length H→Q x H) :
  ∀(r j i:Nat) (s:Shared) (H:Hp) (xb:V) (vb:Value) (tk:Tok) (c:Nat),xs.length - (j+1)=r→j+1≤xs.length→Inv X pins σ H s→Pv (j+1) H→FpOk X pins H Ia→FpOk X pins H S→s.heap.IsListIter Ia a (j+1) →
   s.heap.get? S=some (PyProof.Rows.seqObj "list" #[vb,.int (kf i) tk] c)→xs[i]?=some xb→RelV xb vb→FirstLeast kf (j+1) i →
   codeAny (model X.prog X.w) X.A (.builtin "min.loop" ⟨[.ref Ia,.ref f,.ref S],kw⟩) (fun r s'=>match r with | .ok (.ret v)=>EP X pins σ Q v s' | _=>False) s:=by
 have hname:(toString "min"++toString ".loop":String) = "min.loop":=by decide
 intro r
 induction r with
 | zero =>
  intro j i s H xb vb tk c hr hj I pv fI fS hit hS hxb rb best
  have hin:j+1=xs.length:=by omega
  have hh:X.A.in1.handled=none:=I.ok.hd hcalm
  obtain ⟨its,rv,pl,hz⟩:=I.list (hl (j+1) H hj pv)
  have hal:a≠Ia:=fun e=>by
   obtain ⟨o,n,e1,c1,_⟩:=pl
   obtain ⟨o2,e2,c2,_⟩:=hit
   rw [e,e2] at e1;cases e1;rw [c2] at c1;injection c1 with z;exact absurd z (by decide)
  have W:=Walks.list (prog:=X.prog) (w:=X.w) (A:=X.A.in1) hh Ia a hal its.toArray
  have hsz:its.toArray.size=xs.length:=by rw [List.size_toArray];exact rv.length.symm
  refine codeAny_builtin PySem.F.entry_min_loop ?_
  rw [Around.under_plainId PySem.F.plain_min_loop _]
  show wpAny _ X.A.in1 (seqItems? (.ref S) >>= _) _ _ _
  refine wpAny_bind (wpAny_seqItems hS rfl ?_)
  show wpAny _ X.A.in1 (tryCatch (pyNext (.ref Ia)) _ >>= _) _ _ _
  refine wpAny_bind (wpAny_tryCatch (W.done _ _ _ ⟨by rw [hsz,←hin];exact hit,pl.isList⟩ fun h' tk' hk'=>?_))
  have I1:Inv X pins σ H { s with heap:=h',toks:=tk' }:=I.turnedL (ch:=[Ia]) (fun b o hb e=>hk' b o hb e) fun b hb=>by rw [List.mem_singleton.mp hb];exact fI
  have hS':=hk' S _ (by simpa using (Ne.symm hIS)) hS
  have s1:=Heap.SameBut.update h' S (Obj.mapSeq fun _=>(#[]:Array Value))
  show wpAny _ X.A.in1 (updateSeq S (fun _=>#[]) >>= _) _ _ _
  refine wpAny_bind ?_
  refine wpAny_updateSeq hS' rfl (wpAny_bind (wpAny_letGo (wpAny_pure ?_)))
  have I2:Inv X pins σ H { s with heap:=h'.update S (Obj.mapSeq fun _=>(#[]:Array Value)),toks:=tk' }:=Inv.turnedL (s:={ s with heap:=h',toks:=tk' }) (t':=tk') (ch:=[S]) I1 (fun b o hb e=>(s1.2 b (by simpa using hb)).trans e) fun b hb=>by rw [List.mem_singleton.mp hb];exact fS
  exact ⟨xb,H,I2,rb,fin i xb H hxb (hin ▸ best) (hin ▸ pv)⟩
 | succ r ih =>
  intro j i s H xb vb tk c hr hj I pv fI fS hit hS hxb rb best
  have hlt:j+1 < xs.length:=by omega
  have hh:X.A.in1.handled=none:=I.ok.hd hcalm
  obtain ⟨its,rv,pl,hz⟩:=I.list (hl (j+1) H hj pv)
  have hal:a≠Ia:=fun e=>by
   obtain ⟨o,n,e1,c1,_⟩:=pl
   obtain ⟨o2,e2,c2,_⟩:=hit
   rw [e,e2] at e1;cases e1;rw [c2] at c1;injection c1 with z;exact absurd z (by decide)
  have W:=Walks.list (prog:=X.prog) (w:=X.w) (A:=X.A.in1) hh Ia a hal its.toArray
  have hsz:its.toArray.size=xs.length:=by rw [List.size_toArray];exact rv.length.symm
  refine codeAny_builtin PySem.F.entry_min_loop ?_
  rw [Around.under_plainId PySem.F.plain_min_loop _]
  show wpAny _ X.A.in1 (seqItems? (.ref S) >>= _) _ _ _
  refine wpAny_bind (wpAny_seqItems hS rfl ?_)
  show wpAny _ X.A.in1 (tryCatch (pyNext (.ref Ia)) _ >>= _) _ _ _
  refine wpAny_bind (wpAny_tryCatch (W.item (j+1) _ _ _ (by rw [hsz];exact hlt) ⟨hit,pl.isList⟩ fun v h' tk' hP hst' hk'=>?_))
  have hv:its[j+1]?=some v:=by simpa using hP
  obtain ⟨x,hx,rx⟩:∃x,xs[j+1]?=some x∧RelV x v:=by
   have hx:xs[j+1]?=some xs[j+1]:=List.getElem?_eq_getElem hlt
   obtain ⟨u,hu,ru⟩:=rv.get hx
   rw [hv] at hu
   cases hu
   exact ⟨_,hx,ru⟩
  obtain ⟨oI',hoI',hoc,hod⟩:=id hst'.1
  have I1:Inv X pins σ H { s with heap:=h',toks:=tk' }:=I.turnedL (ch:=[Ia]) (fun b o hb e=>hk' b o hb e) fun b hb=>by rw [List.mem_singleton.mp hb];exact fI
  have hS':=hk' S _ (by simpa using (Ne.symm hIS)) hS
  have I1p:Inv X (pins++pinsAt [Ia,S] h') σ H { s with heap:=h',toks:=tk' }:=I1.pinned (fp:=[Ia,S]) (fun b hb=>by
   rcases List.mem_cons.mp hb with rfl | hb
   ·exact fI
   ·rw [List.mem_singleton.mp hb];exact fS) (fun b hb=>by
   rcases List.mem_cons.mp hb with rfl | hb
   ·exact ⟨oI',hoI',fun v=>by rw [hod];intro z;cases z⟩
   ·rw [List.mem_singleton.mp hb];exact ⟨_,hS',fun v z=>by cases z⟩)
  show wpAny _ X.A.in1 (tryCatch (holding [v] (call (.ref f) [v])) _ >>= _) _ _ _
  refine wpAny_bind (wpAny_tryCatch (wpAny_holding (wpAny_mono (turn (j+1) x v _ _ H hx rx I1p pv) (fun y s2 he=>?_) fun _ _ hF=>hF.elim)))
  obtain ⟨vy,H2,I2p,ry,ey,pv2⟩:=he
  subst ey
  obtain ⟨t2,rfl⟩:=ry
  obtain ⟨gI2,nI2⟩:=pin_back I2p (mem_pinsAt (by simp) hoI')
  obtain ⟨gS2,nS2⟩:=pin_back I2p (mem_pinsAt (by simp) hS')
  have I2:Inv X pins σ H2 s2:=I2p.unpinned
  have fI2:FpOk X pins H2 Ia:=fI.pinned nI2
  have fS2:FpOk X pins H2 S:=fS.pinned nS2
  have hit2:s2.heap.IsListIter Ia a (j+1+1):=⟨oI',gI2,hoc,hod⟩
  show wpAny _ X.A.in1 (tryCatch (holding [v,.int (kf (j+1)) t2] (richCompare .Lt (.int (kf (j+1)) t2) (.int (kf i) tk) >>= _)) _ >>= _) _ _ _
  refine wpAny_bind (wpAny_tryCatch (wpAny_holding (wpAny_bind (CmpOf.ints_lt (prog:=X.prog) (w:=X.w) (A:=X.A.in1) (P:=fun i v=>∃t,v=.int (kf i) t) kf (fun i v h=>h) (j+1) i _ _ _ _ _ ⟨t2,rfl⟩ ⟨tk,rfl⟩ ?_))))
  refine wpAny_bind (wpAny_holding (wpAny_truthy_bool ?_))
  refine wpAny_bind (wpAny_letGo (wpAny_pure ?_))
  by_cases hb':kf (j+1) < kf i
  ·have s1:=Heap.SameBut.update s2.heap S (Obj.mapSeq fun _=>#[v,.int (kf (j+1)) t2])
   obtain ⟨c2,hc2⟩:∃c2,(s2.heap.update S (Obj.mapSeq fun _=>#[v,.int (kf (j+1)) t2])).get? S=some (PyProof.Rows.seqObj "list" #[v,.int (kf (j+1)) t2] c2):=⟨_,PyProof.Rows.get?_update_seq gS2 fun _=>#[v,.int (kf (j+1)) t2]⟩
   simp only [hb',decide_true,if_true]
   refine wpAny_bind ?_
   refine wpAny_updateSeq gS2 rfl (wpAny_bind (wpAny_letGo ?_))
   rw [hname]
   have I3:Inv X pins σ H2 { s2 with heap:=s2.heap.update S (Obj.mapSeq fun _=>#[v,.int (kf (j+1)) t2]) }:=I2.turnedL (t':=s2.toks) (ch:=[S]) (fun b o hb e=>(s1.2 b (by simpa using hb)).trans e) fun b hb=>by rw [List.mem_singleton.mp hb];exact fS2
   exact wpAny_pure ⟨plainId_quiet PySem.F.plain_min_loop _,ih (j+1) (j+1) _ H2 x v t2 c2 (by omega) hlt I3 pv2 fI2 fS2 ⟨oI',(s1.2 Ia hIS).trans gI2,hoc,hod⟩ hc2 hx rx (best.new hb')⟩
  ·simp only [hb',decide_false,Bool.false_eq_true,if_false]
   refine wpAny_bind (wpAny_letGo ?_)
   rw [hname]
   exact wpAny_pure ⟨plainId_quiet PySem.F.plain_min_loop _,ih (j+1) i _ H2 xb vb tk c (by omega) hlt I2 pv2 fI2 fS2 hit2 gS2 hxb rb (best.old hb')⟩
end
end L2
namespace L2
open PySem PySem.Spec PyProof.Rows
theorem args_min_kd (a v d:Value):argsOk "min" ⟨[a],[(Str.ofString "key",v),(Str.ofString "default",d)]⟩:=by unfold argsOk;kernel_rfl
section
variable {X:Cx} {pins:List (Addr×Obj)} {σ:St} {H:Hp} {s:Shared}
theorem min_call {a f:Addr} {xs:List V} {Pv:Nat→Hp→Prop} {kf:Nat→Int} {Q:VK} {d:V} {du:Value} {E:Value→Shared→Prop} (hcalm:X.calm=true) (I:Inv X pins σ H s) (rd:RelV d du) (p0:Pv 0 H) (hl:∀j H,j≤xs.length→Pv j H→SqL X.K H a xs) (turn:KeyTurn X pins σ f xs Pv kf)
  (nil:xs=[]→Q d H) (fin:∀i x H,xs[i]?=some x→FirstLeast kf xs.length i→Pv xs.length H→Q x H) :
  wpAny (model X.prog X.w) X.A (call (.builtin "min") [.ref a] [(Str.ofString "key",.ref f),(Str.ofString "default",du)]) (EP X pins σ Q) E s:=by
 have hname:(toString "min"++toString ".loop":String) = "min.loop":=by decide
 have hh:X.A.in1.handled=none:=I.ok.hd hcalm
 obtain ⟨its,rv,pl,hz⟩:=I.list (hl 0 H (Nat.zero_le _) p0)
 have hll:a < s.heap.objs.size:=by obtain ⟨o,n,e,_⟩:=pl;exact Heap.lt_size e
 have hsz:its.toArray.size=xs.length:=by rw [List.size_toArray];exact rv.length.symm
 refine PyProof.Rows.kmk_tree PySem.F.kind_min PySem.F.plain_min PySem.F.entry_min (args_min_kd _ _ _) ?_
 show wpAny _ X.A.in1 (Builtin.Builtins.bindParams "min" ["key","default"] 0 ⟨[],[(Str.ofString "key",.ref f),(Str.ofString "default",du)]⟩ >>= _) _ _ s
 refine wpAny_bind (wpAny_of_eq (show Builtin.Builtins.bindParams "min" ["key","default"] 0 ⟨[],[(Str.ofString "key",.ref f),(Str.ofString "default",du)]⟩=pure [some (.ref f),some du] from rfl) ?_)
 refine wpAny_bind (wpAny_pure ?_)
 refine wpAny_bind (wpAny_pyIter_list pl.isList ?_)
 refine wpAny_bind (wpAny_newList ?_ (Nat.zero_le _))
 rw [hname]
 have hS:(s.heap.push { cls:=.type "list_iterator",data:=.fields #[.ref a,.int 0 0] }).objs.size=s.heap.objs.size+1:=PyProof.Rows.size_push' ..
 have hlI:a≠s.heap.objs.size:=Nat.ne_of_lt hll
 have hIS:s.heap.objs.size≠(s.heap.push { cls:=.type "list_iterator",data:=.fields #[.ref a,.int 0 0] }).objs.size:=by rw [hS];exact Nat.ne_of_lt (Nat.lt_succ_self _)
 have fI:FpOk X pins H s.heap.objs.size:=I.fpOk (Nat.le_refl _) (I.hok.fresh (Nat.le_refl _))
 have fS:FpOk X pins H (s.heap.push { cls:=.type "list_iterator",data:=.fields #[.ref a,.int 0 0] }).objs.size:=by
  rw [hS];exact I.fpOk (Nat.le_succ _) (I.hok.fresh (Nat.le_succ _))
 refine wpAny_pure ⟨plainId_quiet PySem.F.plain_min_loop _,?_⟩
 have kp0:∀b o,s.heap.get? b=some o→((s.heap.push { cls:=.type "list_iterator",data:=.fields #[.ref a,.int 0 0] }).push (PyProof.Rows.seqObj "list" #[] 0)).get? b=some o:=fun b o e=>Heap.get?_push_of_some _ (Heap.get?_push_of_some _ e)
 have gI:((s.heap.push { cls:=.type "list_iterator",data:=.fields #[.ref a,.int 0 0] }).push (PyProof.Rows.seqObj "list" #[] 0)).get? s.heap.objs.size=some { cls:=.type "list_iterator",data:=.fields #[.ref a,.int 0 0] } :=
  Heap.get?_push_of_some _ (Heap.get?_push_size _ rfl)
 have gS:((s.heap.push { cls:=.type "list_iterator",data:=.fields #[.ref a,.int 0 0] }).push (PyProof.Rows.seqObj "list" #[] 0)).get? (s.heap.push { cls:=.type "list_iterator",data:=.fields #[.ref a,.int 0 0] }).objs.size=some (PyProof.Rows.seqObj "list" #[] 0):=Heap.get?_push_size _ rfl
 have I0:Inv X pins σ H { s with heap:=(s.heap.push { cls:=.type "list_iterator",data:=.fields #[.ref a,.int 0 0] }).push (PyProof.Rows.seqObj "list" #[] 0) }:=I.kept (t':=s.toks) kp0
 generalize (s.heap.push { cls:=.type "list_iterator",data:=.fields #[.ref a,.int 0 0] }).objs.size=S at *
 have W:=Walks.list (prog:=X.prog) (w:=X.w) (A:=X.A.in1) hh s.heap.objs.size a hlI its.toArray
 refine codeAny_builtin PySem.F.entry_min_loop ?_
 rw [Around.under_plainId PySem.F.plain_min_loop _]
 show wpAny _ X.A.in1 (seqItems? (.ref S) >>= _) _ _ _
 refine wpAny_bind (wpAny_seqItems gS rfl ?_)
 show wpAny _ X.A.in1 (tryCatch (pyNext (.ref s.heap.objs.size)) _ >>= _) _ _ _
 by_cases hne:xs=[]
 ·have h0:its.toArray.size=0:=by rw [hsz,hne];rfl
  refine wpAny_bind (wpAny_tryCatch (W.done _ _ _ ⟨by rw [h0];exact ⟨_,gI,rfl,rfl⟩,(pl.keeps kp0).isList⟩ fun h' tk' hk'=>?_))
  have I1:Inv X pins σ H { s with heap:=h',toks:=tk' }:=Inv.turnedL (s:={ s with heap:=(s.heap.push { cls:=.type "list_iterator",data:=.fields #[.ref a,.int 0 0] }).push (PyProof.Rows.seqObj "list" #[] 0) }) (t':=tk') (ch:=[s.heap.objs.size]) I0 (fun b o hb e=>hk' b o hb e) fun b hb=>by rw [List.mem_singleton.mp hb];exact fI
  show wpAny _ X.A.in1 (do rule _;ret du) _ _ _
  refine wpAny_bind (wpAny_rule (wpAny_pure ?_))
  exact ⟨d,H,I1,rd,nil hne⟩
 ·have hpos:0 < xs.length:=List.length_pos_iff.mpr hne
  refine wpAny_bind (wpAny_tryCatch (W.item 0 _ _ _ (by rw [hsz];exact hpos) ⟨⟨_,gI,rfl,rfl⟩,(pl.keeps kp0).isList⟩ fun v h' tk' hP hst' hk'=>?_))
  have hv:its[0]?=some v:=by simpa using hP
  obtain ⟨x,hx,rx⟩:∃x,xs[0]?=some x∧RelV x v:=by
   have hx:xs[0]?=some xs[0]:=List.getElem?_eq_getElem hpos
   obtain ⟨u,hu,ru⟩:=rv.get hx
   rw [hv] at hu
   cases hu
   exact ⟨_,hx,ru⟩
  obtain ⟨oI',hoI',hoc,hod⟩:=id hst'.1
  have I1:Inv X pins σ H { s with heap:=h',toks:=tk' }:=Inv.turnedL (s:={ s with heap:=(s.heap.push { cls:=.type "list_iterator",data:=.fields #[.ref a,.int 0 0] }).push (PyProof.Rows.seqObj "list" #[] 0) }) (t':=tk') (ch:=[s.heap.objs.size]) I0 (fun b o hb e=>hk' b o hb e) fun b hb=>by rw [List.mem_singleton.mp hb];exact fI
  have hS':=hk' S _ (by simpa using (Ne.symm hIS)) gS
  have I1p:Inv X (pins++pinsAt [s.heap.objs.size,S] h') σ H { s with heap:=h',toks:=tk' }:=I1.pinned (fp:=[s.heap.objs.size,S]) (fun b hb=>by
   rcases List.mem_cons.mp hb with rfl | hb
   ·exact fI
   ·rw [List.mem_singleton.mp hb];exact fS) (fun b hb=>by
   rcases List.mem_cons.mp hb with rfl | hb
   ·exact ⟨oI',hoI',fun v=>by rw [hod];intro z;cases z⟩
   ·rw [List.mem_singleton.mp hb];exact ⟨_,hS',fun v z=>by cases z⟩)
  show wpAny _ X.A.in1 (tryCatch (holding [v] (call (.ref f) [v])) _ >>= _) _ _ _
  refine wpAny_bind (wpAny_tryCatch (wpAny_holding (wpAny_mono (turn 0 x v _ _ H hx rx I1p p0) (fun y s2 he=>?_) fun _ _ hF=>hF.elim)))
  obtain ⟨vy,H2,I2p,ry,ey,pv2⟩:=he
  subst ey
  obtain ⟨t2,rfl⟩:=ry
  obtain ⟨gI2,nI2⟩:=pin_back I2p (mem_pinsAt (by simp) hoI')
  obtain ⟨gS2,nS2⟩:=pin_back I2p (mem_pinsAt (by simp) hS')
  have I2:Inv X pins σ H2 s2:=I2p.unpinned
  have fI2:FpOk X pins H2 s.heap.objs.size:=fI.pinned nI2
  have fS2:FpOk X pins H2 S:=fS.pinned nS2
  have s1:=Heap.SameBut.update s2.heap S (Obj.mapSeq fun _=>#[v,.int (kf 0) t2])
  obtain ⟨c2,hc2⟩:∃c2,(s2.heap.update S (Obj.mapSeq fun _=>#[v,.int (kf 0) t2])).get? S=some (PyProof.Rows.seqObj "list" #[v,.int (kf 0) t2] c2):=⟨_,PyProof.Rows.get?_update_seq gS2 fun _=>#[v,.int (kf 0) t2]⟩
  show wpAny _ X.A.in1 (updateSeq S (fun _=>#[v,.int (kf 0) t2]) >>= _) _ _ _
  refine wpAny_bind ?_
  refine wpAny_updateSeq gS2 rfl ?_
  rw [hname]
  have I3:Inv X pins σ H2 { s2 with heap:=s2.heap.update S (Obj.mapSeq fun _=>#[v,.int (kf 0) t2]) }:=I2.turnedL (t':=s2.toks) (ch:=[S]) (fun b o hb e=>(s1.2 b (by simpa using hb)).trans e) fun b hb=>by rw [List.mem_singleton.mp hb];exact fS2
  refine wpAny_pure ⟨plainId_quiet PySem.F.plain_min_loop _,codeAny_mono (min_loop (Q:=Q) hcalm hIS hl turn fin _ 0 0 _ H2 x v t2 c2 rfl hpos I3 pv2 fI2 fS2 ⟨oI',(s1.2 _ hIS).trans gI2,hoc,hod⟩ hc2 hx rx (FirstLeast.one kf)) fun r s' q=>?_⟩
  cases r with
  | error e=>exact q.elim
  | ok fl=>cases fl <;> first | exact q | exact q.elim
end
end L2
namespace L2
open PySem PySem.Spec PyProof.Rows
def isFn (f:Addr) (o:Obj):Heap→Prop:=fun h=>h.get? f=some o
theorem isFn_new {P:Program} {w:World} {H':Hp} {h:Heap} {f:Addr} {o:Obj} (e:h.get? f=some o):ObjOk P w H' h f (.ext (isFn f o)):=⟨e,⟨o,e⟩,fun h1 h2 q k=>k _ q⟩
abbrev lamObj (X:Cx) (params:Arguments) (body:Expr) (scope:Scope) (pm:Value) (c':Addr) (ctv:Value):Obj:=PySem.W.kla_obj "<lambda>" (X.env.qual++"<lambda>") params body scope (cloFrom X.env.cells scope.names []) pm c' ctv
def tLam (X:Cx) (Pt:Addr) (params:Arguments) (body:Expr) (scope:Scope) (pos:Pos):TE:=fun σ H Q=>TabAt H Pt pos (X.env.qual++"<lambda>") ∧
 ∀(f c':Addr) (pm ctv:Value) (H':Hp),H f=none→H' f=some (.ext (isFn f (lamObj X params body scope pm c' ctv)))→H' c'=some (.ext (codeOk (X.env.qual++"<lambda>") c'))→TabAt H' Pt pos (X.env.qual++"<lambda>")→(∀b o,H b=some o→b≠Pt→H' b=some o)→Q (.ref f) H'
section
variable {X:Cx}
theorem pe_lam {params:Arguments} {body:Expr} {scope:Scope} {pos:Pos} {c Pt:Addr} (L:LamHd X.K X.mg X.base c Pt) (hcode:X.env.code=.ref c) (hdef:defaultsOf params X.env=([],[])) (hfree:∀y∈scope.names,y.2=.free→X.env.scope.names.lookup y.1=some .cell∨X.env.scope.names.lookup y.1=some .free) :
  PE X (.Lambda params body scope pos) (tLam X Pt params body scope pos):=by
 intro pins s σ H Q I hw
 obtain ⟨T,hw⟩:=hw
 have hcl:closureFor scope X.env=pure (cloFrom X.env.cells scope.names []):=closure_ok fun y hy e=>by
  rcases hfree y hy e with k | k
  ·exact I.ok.has _ (.inl k)
  ·exact I.ok.has _ (.inr k)
 have hg:s.heap.Ns mainGlobals X.mg:=I.mod.glob.keeps I.bk
 obtain ⟨bm,ob,b1,b2,b3,b4,b5,b6,b7⟩:=L.bt
 have hbP:bm≠Pt:=fun e=>by rw [e,L.np] at b4;cases b4
 have hgP:mainGlobals≠Pt:=fun e=>by
  obtain ⟨o,es,ep,q,_⟩:=I.mod.glob
  rw [e,L.np] at q;cases q
 have hB:s.heap.BuiltinsAt X.mg Pt:=⟨bm,ob,b1,b2,b3,hbP,I.bk _ _ b4,b5,b6,b7⟩
 have C:PySem.W.CodeHd s.heap c Pt:=L.hd.keeps I.bk
 refine PySem.W.kla_eval hdef ?_
 rcases T with hT | ⟨c',hT,hc'⟩
 ·have hP:s.heap.get? Pt=some (PySem.W.tabObj #[]):=I.hok Pt _ hT
  refine PySem.W.kla_makeFunction (mg:=X.mg) hcl I.ok.glob hg hcode C hP trivial rfl hgP hB fun c' ctv h' tk hx hge hlt hrec htb=>?_
  have I1:Inv X pins σ (upd (upd H Pt (.tbl (#[]++#[rawInt pos.line,rawInt pos.col,.ref c']))) c' (.ext (codeOk (X.env.qual++"<lambda>") c'))) { s with heap:=h',toks:=tk } :=
   I.lam hT (fun b u hb e=>hx b u hb e) htb hge fun H'=>codeOk_new hrec
  have hPc:Pt≠c':=ne_of_none hT (I.hok.fresh hge)
  have hsz:s.heap.objs.size≤h'.objs.size:=Nat.le_trans hge (Nat.le_of_lt hlt)
  have hfr:=I1.hok.fresh (show h'.objs.size≤h'.objs.size from Nat.le_refl _)
  have I2:=I1.laid (a:=h'.objs.size) (o:=.ext (isFn h'.objs.size (lamObj X params body scope ((X.mg "__name__").getD .none) c' ctv))) (t':=tk) (h':=h'.push (lamObj X params body scope ((X.mg "__name__").getD .none) c' ctv)) (fun b u e=>Heap.get?_push_of_some _ e) (Nat.le_refl _) (isFn_new (Heap.get?_push_size _ rfl))
  refine ⟨.ref h'.objs.size,_,I2,rfl,hw h'.objs.size c' _ ctv _ (I.hok.fresh hsz) upd_same ?_ (.inr ⟨c',?_,?_⟩) fun b o e nb=>?_⟩
  ·rw [upd_ne (Nat.ne_of_lt hlt),upd_same]
  ·rw [upd_ne (ne_of_none (show (upd (upd H Pt (.tbl (#[]++#[rawInt pos.line,rawInt pos.col,.ref c']))) c' (.ext (codeOk (X.env.qual++"<lambda>") c'))) Pt=some (.tbl (#[]++#[rawInt pos.line,rawInt pos.col,.ref c'])) by rw [upd_ne hPc,upd_same]) hfr),upd_ne hPc,upd_same];rfl
  ·rw [upd_ne (Nat.ne_of_lt hlt),upd_same]
  ·rw [upd_ne (ne_of_none e (I.hok.fresh hsz)),upd_ne (ne_of_none e (I.hok.fresh hge)),upd_ne nb];exact e
 ·have hP:s.heap.get? Pt=some (PySem.W.tabObj #[rawInt pos.line,rawInt pos.col,.ref c']):=I.hok Pt _ hT
  have hf:codeAmong pos (#[rawInt pos.line,rawInt pos.col,Value.ref c']:Array Value).toList=some (.ref c'):=by
   show (if (((pos.line:Nat):Int)==((pos.line:Nat):Int))&&(((pos.col:Nat):Int)==((pos.col:Nat):Int)) then some (Value.ref c') else _)=_
   simp
  refine PySem.W.kla_makeFunctionHit (mg:=X.mg) hcl I.ok.glob hg hcode C hP trivial hf hB fun ctv h' tk hk hsz=>?_
  have I1:Inv X pins σ H { s with heap:=h',toks:=tk }:=I.kept hk
  have hfr:=I1.hok.fresh (show h'.objs.size≤h'.objs.size from Nat.le_refl _)
  have I2:=I1.laid (a:=h'.objs.size) (o:=.ext (isFn h'.objs.size (lamObj X params body scope ((X.mg "__name__").getD .none) c' ctv))) (t':=tk) (h':=h'.push (lamObj X params body scope ((X.mg "__name__").getD .none) c' ctv)) (fun b u e=>Heap.get?_push_of_some _ e) (Nat.le_refl _) (isFn_new (Heap.get?_push_size _ rfl))
  have up:∀b o,H b=some o→(upd H h'.objs.size (.ext (isFn h'.objs.size (lamObj X params body scope ((X.mg "__name__").getD .none) c' ctv)))) b=some o:=fun b o e=>by rw [upd_ne (ne_of_none e hfr)];exact e
  exact ⟨.ref h'.objs.size,_,I2,rfl,hw h'.objs.size c' _ ctv _ hfr upd_same (up _ _ hc') (.inr ⟨c',up _ _ hT,up _ _ hc'⟩) fun b o e _=>up b o e⟩
def rMinK (X:Cx) (params:Arguments) (body:Expr) (scope:Scope) (tb:TE) (js:List Nat) (σ:St) (Q:VK) (vs zs:List V) (H3:Hp):Prop :=
 ∃(a:Addr) (xs:List V) (Pv:Nat→Hp→Prop) (kf:Nat→Int) (f c':Addr) (pm ctv:Value) (dv:V),vs=[.ref a]∧zs=[.ref f,dv]∧Pv 0 H3 ∧
  (∀j H,j≤xs.length→Pv j H→SqL X.K H a xs∧H f=some (.ext (isFn f (lamObj X params body scope pm c' ctv)))∧H c'=some (.ext (codeOk (X.env.qual++"<lambda>") c'))) ∧
  (∀j y H,xs[j]?=some y→Pv j H→tb (lamSt σ y js) H fun r H'=>r=.int (kf j)∧Pv (j+1) H') ∧
  (xs=[]→Q dv H3)∧(∀i y H,xs[i]?=some y→FirstLeast kf xs.length i→Pv xs.length H→Q y H)
def tMinK (X:Cx) (Pt:Addr) (params:Arguments) (body:Expr) (scope:Scope) (lpos:Pos) (te td tb:TE) (js:List Nat):TE:=fun σ H Q=>te σ H fun x H1=>tLam X Pt params body scope lpos σ H1 fun fv H2=>td σ H2 fun dv H3 =>
 rMinK X params body scope tb js σ Q [x] [fv,dv] H3
theorem pe_minK {params:Arguments} {e d body:Expr} {scope:Scope} {p0 pos lpos kpos dpos:Pos} {c Pt:Addr} {p:Str} {names:List Str} {js:List Nat} {te td tb:TE} (hcalm:X.calm=true) (hg:Gl X "min") (hm:X.mg "min"=none) (he:PE X e te) (hd:PE X d td)
  (L:LamHd X.K X.mg X.base c Pt) (hcode:X.env.code=.ref c) (hdef:defaultsOf params X.env=([],[])) (ok:LamOk X.env.scope scope p names) (hroom:X.A.in1.depth < recursionLimit)
  (hjs:∀(i j:Nat) (y:Str),js[i]?=some j→names[i]?=some y→X.N[j]?=some y) (hlen:js.length=names.length)
  (hbind:∀(cl:List (Str×Addr)) (pm ctv cd u:Value),bindArgs (PySem.W.kla_fn "<lambda>" (X.env.qual++"<lambda>") params body scope cl pm cd ctv) ⟨[u],[]⟩=pure [(p,u)])
  (hb:∀(f c':Addr) (s:Shared) (H:Hp) (L:Addr) (cl:List (Str×Addr)),PE (X.lamb X.A.in1 s H (PySem.W.envX (X.env.qual++"<lambda>") scope L f (.ref c') cl) (p::names)) body tb)
  (hs:starEach [e] X.env=[(false,eval e X.env)]:=by rfl)
  (hplain:(backTo pos (starEach [e] X.env)).any (·.1)=false:=by rfl)
  (hall:(backToKw pos (keywordEach [⟨some "key",.Lambda params body scope lpos,kpos⟩,⟨some "default",d,dpos⟩] X.env)).all (·.1.isSome)=true:=by rfl)
  (hkw:(backToKw pos (keywordEach [⟨some "key",.Lambda params body scope lpos,kpos⟩,⟨some "default",d,dpos⟩] X.env)).any (·.1.isNone)=false:=by rfl)
  (hks:(backToKw pos (keywordEach [⟨some "key",.Lambda params body scope lpos,kpos⟩,⟨some "default",d,dpos⟩] X.env)).filterMap (·.1)=[Str.ofString "key",Str.ofString "default"]:=by rfl)
  (hba:backTo pos (starEach [e] X.env)=(false,eval e X.env)::backTo pos (starEach [] X.env):=by rfl) :
  PE X (.Call (.Name "min" p0) [e] [⟨some "key",.Lambda params body scope lpos,kpos⟩,⟨some "default",d,dpos⟩] pos) (tMinK X Pt params body scope lpos te td tb js):=by
 intro pins s σ H Q I h
 have PAe:PA X [e] (tCons te tNil):=pa_cons he pa_nil hs
 have PKk:PK X [⟨some "key",.Lambda params body scope lpos,kpos⟩,⟨some "default",d,dpos⟩] (tCons (tLam X Pt params body scope lpos) (tCons td tNil)):=pk_cons (pe_lam L hcode hdef ok.free) (pk_cons hd pk_nil)
 refine wpAny_Call_Name_kw (ld_blt I hg hm PyProof.Rows.boot_min ?_)
 refine PyProof.Rows.callWith_kw (thn (PAe pos pins s σ H (fun vs H1=>tLam X Pt params body scope lpos σ H1 fun fv H2=>td σ H2 fun dv H3=>rMinK X params body scope tb js σ Q vs [fv,dv] H3) I h) fun us s1 ⟨vs,H1,I1,r1,q1⟩=>?_) hba hplain hall hkw
 ·refine thn (PKk pos pins s1 σ H1 (fun zs H3=>rMinK X params body scope tb js σ Q vs zs H3) I1 q1) fun ws s2 ⟨zs,H3,I3,rz,q⟩=>?_
  ·obtain ⟨a,xs,Pv,kf,f,c',pm,ctv,dv,ev,ez,p0',hl,hk,hnil,hfin⟩:=q
   subst ez ev
   rw [hks,Vals.ref1 r1]
   obtain ⟨w1,w2,rfl,r2,r3⟩:=vals2 rz
   cases r2
   refine min_call hcalm I3 r3 p0' (fun j H hj pv=>(hl j H hj pv).1) (fun j y u more s H hy ry Iy pv=>?_) hnil hfin
   have hjl:j≤xs.length:=Nat.le_of_lt (List.getElem?_eq_some_iff.mp hy).1
   obtain ⟨_,h2,h3⟩:=hl j H hjl pv
   have hf:s.heap.get? f=some (lamObj X params body scope pm c' ctv):=(Iy.hok f _ h2).1
   have hrec:s.heap.CodeRec (.ref c') (X.env.qual++"<lambda>"):=(Iy.hok c' _ h3).1
   exact key_call (A0:=X.A.in1) Iy ok Iy.ok.frames (Iy.ok.hd hcalm) hroom hjs hlen hf hrec ry (fun u=>hbind _ _ _ _ _) (fun s H L cl=>hb f c' s H L cl) (hk j y H hy pv)
end
structure FunC (K:PySem.W.Frag) (x qual:Str) (st:Stmt) (f:Addr) (fd:FuncData) (c:Addr):Prop where
 ex:∃(oc:Value) (od:Option Addr) (kV doc pm:Value) (an:Option Addr) (ct:Value) (osl:Array (Option Value)),
  fd=PySem.W.fnOf x qual (defArgs st) (defBody st) (defScope st) .none kV doc pm an (.ref c) ct∧K.lookup f=some ⟨oc,od,.func fd,osl⟩∧PySem.W.codeIn K (.ref c) qual=true
theorem FunC.ok {P:Program} {w:World} {K:PySem.W.Frag} {mg:Str→Option Value} {base:Heap} {x qual:Str} {st:Stmt} {f c:Addr} {fd:FuncData} {N ps:List Str} {k:Nat} {sp:Sp} (F:FunC K x qual st f fd c) (S:FnScope N ps (defScope st)) (len:∀vs H Q E,sp vs H Q E→vs.length=ps.length)
  (hbody:∀(A:Around) (outer:List Env) (s:Shared) (H:Hp) (vs:List V) (Q:VK) (E:XK),Room k (A.deeper (envOfC qual (defScope st) s.heap.objs.size f (.ref c)))→sp vs H Q E →
   ∃t,PSs (cxOf CX0 P w K mg base N qual (defScope st) f (.ref c) A outer s H E).nox (defBody st) t∧t { nx:=fun _ H'=>Q .non H',rt:=Q } (start N vs) H):FnOk P w K mg base CX0 (k+1) f fd ps sp:=by
 obtain ⟨oc,od,kV,doc,pm,an,ct,osl,rfl,lk,hcd⟩:=F.ex
 refine fn_of lk hcd S len fun A outer s H vs Q E hr hsp=>?_
 obtain ⟨t,h,q⟩:=hbody A outer s H vs Q E hr hsp
 exact ⟨t,h.nox,q⟩
end L2
namespace Y58
open PySem PySem.Spec PyProof.Rows L2
abbrev iN (n:Nat):V:=.int (n:Int)
theorem and_nat (a b:Nat):Builtin.bitAnd (a:Int) (b:Int)=((a &&& b:Nat):Int):=by
 rw [bitAnd_pp (Int.natCast_nonneg a) (Int.natCast_nonneg b)];rfl
theorem or_nat (a b:Nat):Builtin.bitOr (a:Int) (b:Int)=((a ||| b:Nat):Int):=by
 rw [Bits.bitOr_pp (Int.natCast_nonneg a) (Int.natCast_nonneg b)];rfl
theorem andNot_nat (a b:Nat):Builtin.bitAnd (a:Int) (Builtin.bitNot (b:Int))=((a - (a &&& b):Nat):Int):=by
 have h1:decide (0≤(a:Int))=true:=decide_eq_true (Int.natCast_nonneg a)
 have h2:decide (0≤Builtin.bitNot (b:Int))=false:=decide_eq_false (by unfold Builtin.bitNot;omega)
 have h3:(Builtin.bitNot (Builtin.bitNot (b:Int))).toNat=b:=by unfold Builtin.bitNot;omega
 have hle:(a &&& b)≤a:=Nat.and_le_left
 have e:Builtin.bitAnd (a:Int) (Builtin.bitNot (b:Int))=(a:Int) - ((a &&& b:Nat):Int):=by
  unfold Builtin.bitAnd
  rw [h1,h2]
  show (a:Int) - (((a:Int).toNat &&& (Builtin.bitNot (Builtin.bitNot (b:Int))).toNat:Nat):Int)=_
  rw [h3];rfl
 rw [e];omega
theorem shl_nat (n:Nat):(1:Int) * 2^((n:Int)).toNat=((2^n:Nat):Int):=by
 rw [Int.one_mul,Int.toNat_natCast,Int.natCast_pow];rfl
theorem shr_nat (a n:Nat):(a:Int) / 2^((n:Int)).toNat=((a / 2^n:Nat):Int):=by
 rw [Int.toNat_natCast,Int.natCast_ediv,Int.natCast_pow];rfl
theorem bit_nat (a n:Nat):decide (V.int (Builtin.bitAnd ((a:Int) / 2^((n:Int)).toNat) 1)=V.int 1)=a.testBit n:=by
 rw [shr_nat,bitAnd_m1,dec_int,Nat.testBit_eq_decide_div_mod_eq]
 rw [Bool.eq_iff_iff,beq_iff_eq,decide_eq_true_iff]
 omega
def kindF (x:Km415.Type_):List (Str×V):=[("kg",iN x.kg),("minutes",iN x.minutes),("needs",iN x.needs),("harm",iN (Km415.bit x.harm))]
def modelF (x:Km415.Model) (g:Addr):List (Str×V):=[("kg",iN x.kg),("litres",iN x.litres),("groups",.ref g)]
def carF (c:Km415.Car):List (Str×V):=[("model",iN c.model),("has",iN c.has),("litres",iN c.litres),("kg",iN c.kg),("crushed",.bl c.gone)]
structure YA where
 a:Addr
 kl:Addr
 ml:Addr
 cl:Addr
 sl:Addr
 ks:List Addr
 ms:List Addr
 cs:List Addr
 sv:List V
def yardF (A:YA) (y:Km415.Yard):List (Str×V):=[("kinds",.ref A.kl),("models",.ref A.ml),("cars",.ref A.cl),("stock",.ref A.sl),("came_kg",iN y.came),("came_litres",iN y.pumped),("tank",iN y.tank),("scrap",iN y.scrap),("sold_kg",iN y.sold),("sold_litres",iN y.drunk),("minutes",iN y.minutes),("earned",iN y.earned)]
end Y58
namespace Y58
open PySem PySem.Spec PyProof.Rows L2
def top (i:Nat):Stmt:=PySem.Challenge.pw_breakersyard_s01_answers.main.body.getD i (.Pass ⟨0,0,0,0⟩)
structure Adr where
 cKind:Addr
 cModel:Addr
 cCar:Addr
 cYard:Addr
 cCall:Addr
 cRecord:Addr
 aSIZES:Addr
structure Txt (K:PySem.W.Frag) (mg:Str→Option Value) (t:Adr):Prop where
 cl_Kind:Cls K t.cKind
 n_Kind_kg:NoAttr K t.cKind "kg"
 n_Kind_minutes:NoAttr K t.cKind "minutes"
 n_Kind_needs:NoAttr K t.cKind "needs"
 n_Kind_harm:NoAttr K t.cKind "harm"
 cl_Model:Cls K t.cModel
 n_Model_kg:NoAttr K t.cModel "kg"
 n_Model_litres:NoAttr K t.cModel "litres"
 n_Model_groups:NoAttr K t.cModel "groups"
 cl_Car:Cls K t.cCar
 n_Car_model:NoAttr K t.cCar "model"
 n_Car_has:NoAttr K t.cCar "has"
 n_Car_litres:NoAttr K t.cCar "litres"
 n_Car_kg:NoAttr K t.cCar "kg"
 n_Car_crushed:NoAttr K t.cCar "crushed"
 cl_Yard:Cls K t.cYard
 n_Yard_kinds:NoAttr K t.cYard "kinds"
 n_Yard_models:NoAttr K t.cYard "models"
 n_Yard_cars:NoAttr K t.cYard "cars"
 n_Yard_stock:NoAttr K t.cYard "stock"
 n_Yard_came_kg:NoAttr K t.cYard "came_kg"
 n_Yard_came_litres:NoAttr K t.cYard "came_litres"
 n_Yard_tank:NoAttr K t.cYard "tank"
 n_Yard_scrap:NoAttr K t.cYard "scrap"
 n_Yard_sold_kg:NoAttr K t.cYard "sold_kg"
 n_Yard_sold_litres:NoAttr K t.cYard "sold_litres"
 n_Yard_minutes:NoAttr K t.cYard "minutes"
 n_Yard_earned:NoAttr K t.cYard "earned"
 cl_Call:Cls K t.cCall
 n_Call_number:NoAttr K t.cCall "number"
 n_Call_given:NoAttr K t.cCall "given"
 n_Call_row:NoAttr K t.cCall "row"
 cl_Record:Cls K t.cRecord
 n_Record_now:NoAttr K t.cRecord "now"
 n_Record_earlier:NoAttr K t.cRecord "earlier"
 n_Record_later:NoAttr K t.cRecord "later"
 g_PLACES:∃k:Tok,mg "PLACES"=some (Value.int (30) k)
 g_MOST_KINDS:∃k:Tok,mg "MOST_KINDS"=some (Value.int (8) k)
 g_MOST_MODELS:∃k:Tok,mg "MOST_MODELS"=some (Value.int (6) k)
 g_MOST_CARS:∃k:Tok,mg "MOST_CARS"=some (Value.int (8) k)
 g_NOT_THERE:∃k:Tok,mg "NOT_THERE"=some (Value.int (-2) k)
 g_NOT_HAD:∃k:Tok,mg "NOT_HAD"=some (Value.int (-6) k)
 g_TANK_HAS_LESS:∃k:Tok,mg "TANK_HAS_LESS"=some (Value.int (-12) k)
 g_NOT_DRY:∃k:Tok,mg "NOT_DRY"=some (Value.int (-13) k)
 g_IN_THE_WAY:∃k:Tok,mg "IN_THE_WAY"=some (Value.int (-16) k)
 g_DRY_ALREADY:∃k:Tok,mg "DRY_ALREADY"=some (Value.int (-17) k)
 g_NOT_AS_TOLD:∃k:Tok,mg "NOT_AS_TOLD"=some (Value.int (-22) k)
 g_NO_ROOM:∃k:Tok,mg "NO_ROOM"=some (Value.int (-28) k)
 g_NO_WAY:∃k:Tok,mg "NO_WAY"=some (Value.int (-33) k)
 g_TANK_WOULD_SPILL:∃k:Tok,mg "TANK_WOULD_SPILL"=some (Value.int (-62) k)
 g_MOST_GATHERED:∃k:Tok,mg "MOST_GATHERED"=some (Value.int (3) k)
 g_START:∃k:Tok,mg "START"=some (Value.int (0) k)
 g_ADD_KIND:∃k:Tok,mg "ADD_KIND"=some (Value.int (1) k)
 g_ADD_MODEL:∃k:Tok,mg "ADD_MODEL"=some (Value.int (2) k)
 g_ADD_CAR:∃k:Tok,mg "ADD_CAR"=some (Value.int (3) k)
 g_DRAIN:∃k:Tok,mg "DRAIN"=some (Value.int (4) k)
 g_OFF:∃k:Tok,mg "OFF"=some (Value.int (5) k)
 g_STRIP:∃k:Tok,mg "STRIP"=some (Value.int (6) k)
 g_GATHER:∃k:Tok,mg "GATHER"=some (Value.int (7) k)
 g_SELL:∃k:Tok,mg "SELL"=some (Value.int (8) k)
 g_CRUSH:∃k:Tok,mg "CRUSH"=some (Value.int (9) k)
 g_CART:∃k:Tok,mg "CART"=some (Value.int (10) k)
 g_PUMP:∃k:Tok,mg "PUMP"=some (Value.int (11) k)
 g_FITS:∃k:Tok,mg "FITS"=some (Value.int (12) k)
 g_MUST:∃k:Tok,mg "MUST"=some (Value.int (13) k)
 g_MAY:∃k:Tok,mg "MAY"=some (Value.int (14) k)
 g_NEXT:∃k:Tok,mg "NEXT"=some (Value.int (15) k)
 g_LOOK:∃k:Tok,mg "LOOK"=some (Value.int (16) k)
 g_FIND:∃k:Tok,mg "FIND"=some (Value.int (17) k)
 g_FROM:∃k:Tok,mg "FROM"=some (Value.int (18) k)
 g_LEAST:∃k:Tok,mg "LEAST"=some (Value.int (19) k)
 g_LACKING:∃k:Tok,mg "LACKING"=some (Value.int (20) k)
 g_PART:∃k:Tok,mg "PART"=some (Value.int (21) k)
 g_COUNT:∃k:Tok,mg "COUNT"=some (Value.int (22) k)
 g_HARM:∃k:Tok,mg "HARM"=some (Value.int (24) k)
 g_WEIGHTS:∃k:Tok,mg "WEIGHTS"=some (Value.int (25) k)
 g_LITRES:∃k:Tok,mg "LITRES"=some (Value.int (26) k)
 g_MONEY:∃k:Tok,mg "MONEY"=some (Value.int (27) k)
 g_BACK:∃k:Tok,mg "BACK"=some (Value.int (28) k)
 g_AGAIN:∃k:Tok,mg "AGAIN"=some (Value.int (29) k)
 g_STATE:∃k:Tok,mg "STATE"=some (Value.int (30) k)
 g_SIZES:mg "SIZES"=some (.ref t.aSIZES)
 v_SIZES:∀H,SqT K H t.aSIZES (([0,4,2,2,1,2,2,2,2,1,1,2,3,2,2,1,1,2,2,2,2,1,1,1,1,0,0,0,0,0,0]:List Int).map V.int)
 g_MOST_KIND_KG:∃k:Tok,mg "MOST_KIND_KG"=some (Value.int (500) k)
 g_MOST_MINUTES:∃k:Tok,mg "MOST_MINUTES"=some (Value.int (600) k)
 g_MOST_MODEL_KG:∃k:Tok,mg "MOST_MODEL_KG"=some (Value.int (5000) k)
 g_MOST_MODEL_LITRES:∃k:Tok,mg "MOST_MODEL_LITRES"=some (Value.int (100) k)
 g_MOST_GROUP:∃k:Tok,mg "MOST_GROUP"=some (Value.int (9) k)
 g_MOST_TANK_LITRES:∃k:Tok,mg "MOST_TANK_LITRES"=some (Value.int (300) k)
 g_MOST_PART_PRICE:∃k:Tok,mg "MOST_PART_PRICE"=some (Value.int (10000) k)
 g_MOST_TONNE_PRICE:∃k:Tok,mg "MOST_TONNE_PRICE"=some (Value.int (1000) k)
 g_MOST_LITRE_PRICE:∃k:Tok,mg "MOST_LITRE_PRICE"=some (Value.int (100) k)
 g_KG_OF_TONNE:∃k:Tok,mg "KG_OF_TONNE"=some (Value.int (1000) k)
 g_MOST_BACK:∃k:Tok,mg "MOST_BACK"=some (Value.int (30) k)
 b_sum:mg "sum"=none
 b_enumerate:mg "enumerate"=none
 b_range:mg "range"=none
 b_list:mg "list"=none
 b_len:mg "len"=none
 b_zip:mg "zip"=none
 b_min:mg "min"=none
 b_sorted:mg "sorted"=none
 b_max:mg "max"=none
 b_tuple:mg "tuple"=none
 b_set:mg "set"=none
theorem rd_fld {K:PySem.W.Frag} {H:Hp} {p C dx:Addr} {fs:List (Str×V)} {f:Str} {v:V} {Q:V→Prop} (h:H p=some (.ins C dx fs)) (c:Cls K C) (n:NoAttr K C f) (l:fs.lookup f=some v) (q:Q v) :
  ∃a C dx fs v,V.ref p=.ref a∧H a=some (.ins C dx fs)∧Cls K C∧NoAttr K C f∧fs.lookup f=some v∧Q v:=⟨p,C,dx,fs,v,rfl,h,c,n,l,q⟩
theorem rd_ix {K:PySem.W.Frag} {H:Hp} {p:Addr} {xs:List V} {n:Nat} {v:V} {Q:VK} (h:H p=some (.lst xs)) (e:xs[n]?=some v) (q:Q v H):rIxL K (.ref p) (.int (n:Int)) H Q :=
 ⟨p,xs,n,v,rfl,rfl,SqL.of h,atI_nat e,q⟩
theorem rd_ixT {K:PySem.W.Frag} {H:Hp} {p:Addr} {xs:List V} {n:Nat} {v:V} {Q:VK} (h:H p=some (.tup xs)) (e:xs[n]?=some v) (q:Q v H):rIxT K (.ref p) (.int (n:Int)) H Q :=
 ⟨p,xs,n,v,rfl,rfl,SqT.of h,atI_nat e,q⟩
theorem rd_len {K:PySem.W.Frag} {H:Hp} {p:Addr} {xs:List V} {Q:List V→Prop} (h:H p=some (.lst xs)) (q:Q xs):∃a ys,([V.ref p]:List V)=[.ref a]∧(SqL K H a ys∨SqT K H a ys)∧Q ys :=
 ⟨p,xs,rfl,.inl (SqL.of h),q⟩
theorem rd_set {K:PySem.W.Frag} {H:Hp} {p C dx:Addr} {fs fs':List (Str×V)} {f:Str} {v:V} {R:Hp→Prop} (h:H p=some (.ins C dx fs)) (c:Cls K C) (n:NoAttr K C f) (l:fs.length < 1000) (e:putF f v fs=fs') (q:R (upd H p (.ins C dx fs'))) :
  ∃a C dx fs,V.ref p=.ref a∧H a=some (.ins C dx fs)∧Cls K C∧NoAttr K C f∧fs.length < 1000∧R (upd H a (.ins C dx (putF f v fs))):=⟨p,C,dx,fs,rfl,h,c,n,l,by rw [e];exact q⟩
theorem rd_aug {K:PySem.W.Frag} {H:Hp} {p C dx:Addr} {fs:List (Str×V)} {f:Str} {v:V} {Q:Addr→Addr→V→Prop} (h:H p=some (.ins C dx fs)) (c:Cls K C) (n:NoAttr K C f) (l:fs.lookup f=some v) (q:Q p C v) :
  ∃a C dx fs v,V.ref p=.ref a∧H a=some (.ins C dx fs)∧Cls K C∧NoAttr K C f∧fs.lookup f=some v∧Q a C v:=⟨p,C,dx,fs,v,rfl,h,c,n,l,q⟩
theorem rd_put {H:Hp} {p C dx:Addr} {fs fs':List (Str×V)} {f:Str} {z:V} {R:Hp→Prop} (h:H p=some (.ins C dx fs)) (l:fs.length < 1000) (e:putF f z fs=fs') (q:R (upd H p (.ins C dx fs'))) :
  ∃dx' fs0,H p=some (.ins C dx' fs0)∧fs0.length < 1000∧R (upd H p (.ins C dx' (putF f z fs0))):=⟨dx,fs,h,l,by rw [e];exact q⟩
theorem dec_nat (a b:Nat):decide (V.int (a:Int)=V.int (b:Int))=decide (a=b):=by
 rw [dec_int,Bool.eq_iff_iff,beq_iff_eq,decide_eq_true_iff];omega
theorem paired_get {α β:Type} {R:α→β→Prop}:∀{l:List α} {m:List β} {i:Nat} {y:β},Paired R l m→m[i]?=some y→∃x,l[i]?=some x∧R x y
 | _,_,_,_,.nil,e=>by simp at e
 | _,_,0,_,.cons r _,e=>by simp at e;subst e;exact ⟨_,rfl,r⟩
 | _,_,i+1,y,.cons _ t,e=>by
  obtain ⟨x,h1,h2⟩:=paired_get (i:=i) (y:=y) t (by simpa using e)
  exact ⟨x,by simpa using h1,h2⟩
theorem paired_get' {α β:Type} {R:α→β→Prop}:∀{l:List α} {m:List β} {i:Nat} {x:α},Paired R l m→l[i]?=some x→∃y,m[i]?=some y∧R x y
 | _,_,_,_,.nil,e=>by simp at e
 | _,_,0,_,.cons r _,e=>by simp at e;subst e;exact ⟨_,rfl,r⟩
 | _,_,i+1,x,.cons _ t,e=>by
  obtain ⟨y,h1,h2⟩:=paired_get' (i:=i) (x:=x) t (by simpa using e)
  exact ⟨y,by simpa using h1,h2⟩
theorem paired_set {α β:Type} {R:α→β→Prop} {x:α} {y:β} (r:R x y):∀{l:List α} {m:List β} (i:Nat),Paired R l m→Paired R (l.set i x) (m.set i y)
 | _,_,_,.nil=>.nil
 | _,_,0,.cons _ t=>.cons r t
 | _,_,i+1,.cons q t=>.cons q (paired_set r i t)
theorem paired_snoc {α β:Type} {R:α→β→Prop} {x:α} {y:β} (r:R x y):∀{l:List α} {m:List β},Paired R l m→Paired R (l++[x]) (m++[y])
 | _,_,.nil=>.cons r .nil
 | _,_,.cons q t=>.cons q (paired_snoc r t)
def KindAt (t:Adr) (H:Hp) (a:Addr) (x:Km415.Type_):Prop:=∃dx,H a=some (.ins t.cKind dx (kindF x))
def ModelAt (t:Adr) (H:Hp) (a:Addr) (x:Km415.Model):Prop:=∃dx g,H a=some (.ins t.cModel dx (modelF x g))∧H g=some (.tup (x.groups.map iN))
def CarAt (t:Adr) (H:Hp) (a:Addr) (c:Km415.Car):Prop:=∃dx,H a=some (.ins t.cCar dx (carF c))
def PartAt (H:Hp) (v:V):Option Km415.Part→Prop
 | none=>v=.non
 | some p=>∃b,v=.ref b∧H b=some (.tup [iN p.kind,iN p.model])
structure YardAt (t:Adr) (H:Hp) (A:YA) (y:Km415.Yard):Prop where
 me:∃dx,H A.a=some (.ins t.cYard dx (yardF A y))
 kl:H A.kl=some (.lst (A.ks.map V.ref))
 ml:H A.ml=some (.lst (A.ms.map V.ref))
 cl:H A.cl=some (.lst (A.cs.map V.ref))
 sl:H A.sl=some (.lst A.sv)
 ks:Paired (KindAt t H) A.ks y.types
 ms:Paired (ModelAt t H) A.ms y.models
 cs:Paired (CarAt t H) A.cs y.cars
 st:Paired (PartAt H) A.sv y.stock
 nd:A.cs.Nodup
section
variable {t:Adr} {H H':Hp} {A:YA} {y:Km415.Yard} {n:Nat}
theorem KindAt.same {a:Addr} {x:Km415.Type_} (s:Same H H') (h:KindAt t H a x):KindAt t H' a x:=h.imp fun _ e=>s _ _ e
theorem ModelAt.same {a:Addr} {x:Km415.Model} (s:Same H H') (h:ModelAt t H a x):ModelAt t H' a x:=let ⟨dx,g,e1,e2⟩:=h;⟨dx,g,s _ _ e1,s _ _ e2⟩
theorem CarAt.same {a:Addr} {x:Km415.Car} (s:Same H H') (h:CarAt t H a x):CarAt t H' a x:=h.imp fun _ e=>s _ _ e
theorem PartAt.same {v:V} (s:Same H H'):∀{o:Option Km415.Part},PartAt H v o→PartAt H' v o
 | none,h=>h
 | some _,⟨b,e,h⟩=>⟨b,e,s _ _ h⟩
theorem YardAt.same (s:Same H H') (h:YardAt t H A y):YardAt t H' A y :=
 ⟨h.me.imp fun _ e=>s _ _ e,s _ _ h.kl,s _ _ h.ml,s _ _ h.cl,s _ _ h.sl,Paired.mapP h.ks fun _ _=>KindAt.same s,Paired.mapP h.ms fun _ _=>ModelAt.same s,Paired.mapP h.cs fun _ _=>CarAt.same s,Paired.mapP h.st fun _ _=>PartAt.same s,h.nd⟩
theorem YardAt.kind (h:YardAt t H A y) {x:Km415.Type_} (e:y.types[n]?=some x):∃b dx,(A.ks.map V.ref)[n]?=some (.ref b)∧H b=some (.ins t.cKind dx (kindF x)):=by
 obtain ⟨b,h1,⟨dx,h2⟩⟩:=paired_get h.ks e
 exact ⟨b,dx,by rw [List.getElem?_map,h1];rfl,h2⟩
theorem YardAt.model (h:YardAt t H A y) {x:Km415.Model} (e:y.models[n]?=some x):∃b dx g,(A.ms.map V.ref)[n]?=some (.ref b)∧H b=some (.ins t.cModel dx (modelF x g))∧H g=some (.tup (x.groups.map iN)):=by
 obtain ⟨b,h1,⟨dx,g,h2,h3⟩⟩:=paired_get h.ms e
 exact ⟨b,dx,g,by rw [List.getElem?_map,h1];rfl,h2,h3⟩
theorem YardAt.car (h:YardAt t H A y) {c:Km415.Car} (e:y.cars[n]?=some c):∃b dx,A.cs[n]?=some b∧(A.cs.map V.ref)[n]?=some (.ref b)∧H b=some (.ins t.cCar dx (carF c)):=by
 obtain ⟨b,h1,⟨dx,h2⟩⟩:=paired_get h.cs e
 exact ⟨b,dx,h1,by rw [List.getElem?_map,h1];rfl,h2⟩
theorem YardAt.part (h:YardAt t H A y) {o:Option Km415.Part} (e:y.stock[n]?=some o):∃v,A.sv[n]?=some v∧PartAt H v o:=paired_get h.st e
theorem YardAt.kn (h:YardAt t H A y):(A.ks.map V.ref).length=y.types.length:=by rw [List.length_map];exact Paired.length h.ks
theorem YardAt.mn (h:YardAt t H A y):(A.ms.map V.ref).length=y.models.length:=by rw [List.length_map];exact Paired.length h.ms
theorem YardAt.cn (h:YardAt t H A y):(A.cs.map V.ref).length=y.cars.length:=by rw [List.length_map];exact Paired.length h.cs
theorem YardAt.sn (h:YardAt t H A y):A.sv.length=y.stock.length:=Paired.length h.st
end
theorem map_get {α β:Type} {g:α→β} {l:List α} {i:Nat} {x:β} (h:(l.map g)[i]?=some x):∃n,l[i]?=some n∧x=g n:=by
 rw [List.getElem?_map] at h
 cases e:l[i]? with
 | none=>rw [e] at h;cases h
 | some n=>rw [e] at h;exact ⟨n,rfl,(Option.some.inj h).symm⟩
theorem take_snoc {α:Type} {l:List α} {i:Nat} {x:α} (h:l[i]?=some x):l.take (i+1)=l.take i++[x]:=by
 rw [List.take_add_one,h];rfl
theorem iN_int (l:List Nat):l.map iN=(l.map fun (n:Nat)=>(n:Int)).map V.int:=by rw [List.map_map];rfl
theorem same_upd {H H':Hp} {p:Addr} {o:HO} (s:Same H H') (h:H p=none):Same H (upd H' p o):=fun b u e=>by rw [upd_ne (ne_of_none e h)];exact s b u e
theorem same_new {H:Hp} {p:Addr} {o:HO} (h:H p=none):Same H (upd H p o):=fun b u e=>by rw [upd_ne (ne_of_none e h)];exact e
theorem small {n:Nat} (h:n≤100000):n < sizeLine:=by rw [sizeLine_eq];omega
theorem cpow_nat {a n:Nat} (ha:a < 2^64) (hn:n≤1000000):CPow (a:Int) (n:Int):=⟨by omega,by omega,by rw [Int.natAbs_natCast];exact ha⟩
theorem mulpow_nat (a n:Nat):(a:Int) * 2^((n:Int)).toNat=((a * 2^n:Nat):Int):=by
 rw [Int.toNat_natCast,Int.natCast_mul,Int.natCast_pow];rfl
theorem ixN_nat {n j:Nat} (h:j < n):ixN n (j:Int)=some j:=by
 unfold ixN
 rw [if_pos (Int.natCast_nonneg j),if_pos (by omega),Int.toNat_natCast]
theorem bits_nat (b:Nat):Builtin.Int.intBits (b:Int)=if b=0 then 0 else b.log2+1:=by
 unfold Builtin.Int.intBits
 by_cases h:b=0
 ·subst h;rfl
 ·have:((b:Int)==0)=false:=by simpa using h
  rw [this,if_neg h];rfl
end Y58
set_option hygiene false
local macro_rules | `(tactic| walk_at "txt") => `(tactic| first | exact T.cl_Kind | exact T.n_Kind_kg | exact T.n_Kind_minutes | exact T.n_Kind_needs | exact T.n_Kind_harm | exact T.cl_Model | exact T.n_Model_kg | exact T.n_Model_litres | exact T.n_Model_groups | exact T.cl_Car | exact T.n_Car_model | exact T.n_Car_has | exact T.n_Car_litres | exact T.n_Car_kg | exact T.n_Car_crushed | exact T.cl_Yard | exact T.n_Yard_kinds | exact T.n_Yard_models | exact T.n_Yard_cars | exact T.n_Yard_stock | exact T.n_Yard_came_kg | exact T.n_Yard_came_litres | exact T.n_Yard_tank | exact T.n_Yard_scrap | exact T.n_Yard_sold_kg | exact T.n_Yard_sold_litres | exact T.n_Yard_minutes | exact T.n_Yard_earned | exact T.cl_Call | exact T.n_Call_number | exact T.n_Call_given | exact T.n_Call_row | exact T.cl_Record | exact T.n_Record_now | exact T.n_Record_earlier | exact T.n_Record_later)
local macro_rules | `(tactic| walk_at "rd") => `(tactic| repeat (first | refine rd_fld (by assumption) (by walk_at "txt") (by walk_at "txt") (by rfl) ?_ | refine rd_ix (by assumption) (by assumption) ?_ | refine rd_ixT (by assumption) (by assumption) ?_ | refine rd_len (by assumption) ?_ | refine ⟨_, rfl, ?_⟩ | refine ⟨_, _, rfl, rfl, Int.natCast_nonneg _, ?_⟩ | refine ⟨_, _, rfl, rfl, ?_⟩ | refine ⟨rfl, ?_⟩))
local macro_rules | `(tactic| walk_at "lo") => `(tactic| first | exact Or.inl rfl | exact Or.inr rfl)
local macro_rules | `(tactic| walk_at "sc") => `(tactic| exact ⟨rfl, rfl, rfl, by decide +kernel, rfl, by decide +kernel, by decide +kernel⟩)
set_option hygiene true
namespace Y58
open PySem PySem.Spec PyProof.Rows L2
abbrev s_kinds_in:Stmt:=top 1
theorem sc_kinds_in:FnScope ["bits","t"] ["bits"] (defScope s_kinds_in):=by walk_at "sc"
abbrev s_minutes_of:Stmt:=top 3
theorem sc_minutes_of:FnScope ["yard","bits","t"] ["yard","bits"] (defScope s_minutes_of):=by walk_at "sc"
abbrev s_kilograms_of:Stmt:=top 4
theorem sc_kilograms_of:FnScope ["yard","bits","t"] ["yard","bits"] (defScope s_kilograms_of):=by walk_at "sc"
abbrev s_is_dry:Stmt:=top 6
theorem sc_is_dry:FnScope ["car"] ["car"] (defScope s_is_dry):=by walk_at "sc"
abbrev s_has_part:Stmt:=top 7
theorem sc_has_part:FnScope ["car","t"] ["car","t"] (defScope s_has_part):=by walk_at "sc"
abbrev s_is_held_back:Stmt:=top 8
theorem sc_is_held_back:FnScope ["yard","car","t"] ["yard","car","t"] (defScope s_is_held_back):=by walk_at "sc"
abbrev s_may_come_off:Stmt:=top 9
theorem sc_may_come_off:FnScope ["yard","car","t"] ["yard","car","t"] (defScope s_may_come_off):=by walk_at "sc"
section
variable {P:Program} {w:World} {K:PySem.W.Frag} {mg:Str→Option Value} {base:Heap} {t:Adr} {f:Addr} {fd:FuncData}
def sp_is_dry (t:Adr):Sp:=fun vs H Q _=>∃a dx c,vs=[.ref a]∧H a=some (.ins t.cCar dx (carF c))∧Q (.bl (decide (c.litres=0))) H
theorem ok_is_dry (F:Fun K "is_dry" "is_dry" s_is_dry f fd) (T:Txt K mg t):FnOk P w K mg base CX0 1 f fd ["car"] (sp_is_dry t):=by
 refine F.ok sc_is_dry (fun vs H Q E h=>?_) (fun cdv A outer s H vs Q E hr h=>?_)
 ·obtain ⟨a,dx,c,rfl,_⟩:=h;rfl
 ·obtain ⟨a,dx,c,rfl,ha,k⟩:=h
  have nd:=sc_is_dry.nd
  refine ⟨_,(pss_one (ps_ret (pe_cmpR op_eq (pe_fldK K (pv 0) rfl) pe_int (nomark _)))),?_⟩
  walk_at "rd"
  show Q (.bl (decide (V.int (c.litres:Int)=V.int ((0:Nat):Int)))) H
  rw [dec_nat];exact k
def sp_has_part (t:Adr):Sp:=fun vs H Q _=>∃a dx c n,vs=[.ref a,iN n]∧H a=some (.ins t.cCar dx (carF c))∧Q (.bl (c.has.testBit n)) H
theorem ok_has_part (F:Fun K "has_part" "has_part" s_has_part f fd) (T:Txt K mg t):FnOk P w K mg base CX0 1 f fd ["car","t"] (sp_has_part t):=by
 refine F.ok sc_has_part (fun vs H Q E h=>?_) (fun cdv A outer s H vs Q E hr h=>?_)
 ·obtain ⟨a,dx,c,n,rfl,_⟩:=h;rfl
 ·obtain ⟨a,dx,c,n,rfl,ha,k⟩:=h
  have nd:=sc_has_part.nd
  refine ⟨_,(pss_one (ps_ret (pe_cmpR op_eq (pe_op op_and (pe_op op_shr (pe_fldK K (pv 0) rfl) (pv 1)) pe_int) pe_int (nomark _)))),?_⟩
  walk_at "rd"
  show Q (.bl (decide (V.int (Builtin.bitAnd ((c.has:Int) / 2^((n:Int)).toNat) 1)=V.int 1))) H
  rw [bit_nat];exact k
def sp_is_held_back (t:Adr):Sp:=fun vs H Q _=>∃A y a dx c n,vs=[.ref A.a,.ref a,iN n]∧YardAt t H A y∧H a=some (.ins t.cCar dx (carF c))∧n < y.types.length∧Q (.bl (!decide (y.needsOf n &&& c.has=0))) H
theorem ok_is_held_back (F:Fun K "is_held_back" "is_held_back" s_is_held_back f fd) (T:Txt K mg t):FnOk P w K mg base CX0 1 f fd ["yard","car","t"] (sp_is_held_back t):=by
 refine F.ok sc_is_held_back (fun vs H Q E h=>?_) (fun cdv _ outer s H vs Q E hr h=>?_)
 ·obtain ⟨A,y,a,dx,c,n,rfl,_⟩:=h;rfl
 ·obtain ⟨A,y,a,dx,c,n,rfl,hy,ha,hn,k⟩:=h
  have nd:=sc_is_held_back.nd
  obtain ⟨dy,hme⟩:=hy.me
  have hl:=hy.kl
  have hx:y.types[n]?=some y.types[n]:=List.getElem?_eq_getElem hn
  obtain ⟨b,db,hb,hk⟩:=hy.kind hx
  refine ⟨_,(pss_one (ps_ret (pe_cmpR op_ne (pe_op op_and (pe_fldK K (pe_ix (ix_listK K) (pe_fldK K (pv 0) rfl) (pv 2) (fun _ _=>rfl)) rfl) (pe_fldK K (pv 1) rfl)) pe_int (nomark _)))),?_⟩
  walk_at "rd"
  have e:y.needsOf n=(y.types[n]).needs:=by unfold Km415.Yard.needsOf;rw [hx]
  rw [e] at k
  show Q (.bl (!decide (V.int (Builtin.bitAnd ((y.types[n]).needs:Int) (c.has:Int))=V.int ((0:Nat):Int)))) H
  rw [and_nat,dec_nat];exact k
def sp_kinds_in:Sp:=fun vs H Q _=>∃b:Nat,vs=[iN b]∧b < 2^8∧∀H' p,Same H H'→H p=none→H' p=some (.lst ((Km415.kinds 8 b).map iN))→Q (.ref p) H'
theorem ok_kinds_in (F:Fun K "kinds_in" "kinds_in" s_kinds_in f fd) (T:Txt K mg t):FnOk P w K mg base CX0 1 f fd ["bits"] sp_kinds_in:=by
 refine F.ok sc_kinds_in (fun vs H Q E h=>?_) (fun cdv _ outer s H vs Q E hr h=>?_)
 ·obtain ⟨b,rfl,_⟩:=h;rfl
 ·obtain ⟨b,rfl,hb,k⟩:=h
  have nd:=sc_kinds_in.nd
  refine ⟨_,(pss_one (ps_ret (pe_lc rfl nd (pi_range1 rfl T.b_range (pa_cons (pe_bm0K K PySem.F.plainAttrs_int PySem.F.slot_int_bit_length PySem.F.type_int_bit_length mt_bitlen (pv 0)) pa_nil)) (blkOk_by (own:=[("t",1)]) rfl) (fun _ _ _ _ _=>(pg_name (i:=1) nd rfl (by walk_at "lo"))) (fun _ _ _ _ _=>(pts_one (pt_cmpR op_eq (pe_op op_and (pe_op op_shr (pv 0) (pv 1)) pe_int) pe_int (nomark _)))) (fun _ _ _ _ _=>(pv 1))))),?_⟩
  walk_at "rd"
  have hlog:b.log2 < 8∨b=0:=by
   by_cases h0:b=0
   ·exact .inr h0
   ·exact .inl ((Nat.log2_lt h0).mpr hb)
  have hB:Builtin.Int.intBits (b:Int)≤8:=by
   rw [bits_nat]
   split
   ·omega
   ·rcases hlog with h | h
    ·omega
    ·contradiction
  generalize hn:Builtin.Int.intBits (b:Int)=n at hB ⊢
  refine ⟨by omega,by omega,fun D hD=>?_⟩
  refine lc_range (n:=((n:Nat):Int).toNat) (fun i H'=>Same H H'∧H' D=some (.lst (((List.range i).filter fun t=>b.testBit t).map iN))) ⟨same_new hD,upd_same⟩ ?_ ?_
  ·rintro i H' hi ⟨s',hD'⟩
   refine ⟨rfl,?_⟩
   walk_at "rd"
   show if decide (V.int (Builtin.bitAnd ((b:Int) / 2^((0+(i:Int))).toNat) 1)=V.int 1)=true then _ else _
   rw [Int.zero_add,bit_nat]
   cases e:b.testBit i with
   | true =>
    refine iteT ⟨_,rfl,_,hD',?_,fun c o h=>?_,?_⟩
    ·refine small ?_
     rw [List.length_map]
     have:=List.length_filter_le (fun t=>b.testBit t) (List.range i)
     rw [List.length_range] at this
     have:i < n:=by simpa using hi
     omega
    ·rw [upd_ne (ne_of_none h hD)];exact s' _ _ h
    ·rw [upd_same,List.range_succ,List.filter_append,List.map_append]
     simp only [List.filter_cons,e,if_true,List.filter_nil,List.map_cons,List.map_nil]
   | false =>
    refine iteF ⟨s',?_⟩
    rw [hD',List.range_succ,List.filter_append]
    simp only [List.filter_cons,e,Bool.false_eq_true,if_false,List.filter_nil,List.append_nil]
  ·rintro H' ⟨s',hD'⟩
   refine k H' D s' hD ?_
   rw [hD',Int.toNat_natCast,←hn,bits_nat]
   exact congrArg (fun l=>some (HO.lst (List.map iN l))) (kinds_log hb)
end
end Y58
namespace Y58
open PySem PySem.Spec PyProof.Rows L2
abbrev s_harmful_kinds:Stmt:=top 5
theorem sc_harmful_kinds:FnScope ["yard","bits","t","kind"] ["yard"] (defScope s_harmful_kinds):=by walk_at "sc"
abbrev s_must_come_off:Stmt:=top 10
theorem sc_must_come_off:FnScope ["yard","car","wanted","must","t"] ["yard","car","wanted"] (defScope s_must_come_off):=by walk_at "sc"
abbrev s_free_places:Stmt:=top 11
theorem sc_free_places:FnScope ["yard"] ["yard"] (defScope s_free_places):=by walk_at "sc"
section
variable {P:Program} {w:World} {K:PySem.W.Frag} {mg:Str→Option Value} {base:Heap} {t:Adr} {f:Addr} {fd:FuncData}
def sp_minutes_of (t:Adr):Sp:=fun vs H Q _=>∃A y b,vs=[.ref A.a,iN b]∧YardAt t H A y∧y.types.length≤8∧b < 2^y.types.length∧∀H',Same H H'→Q (iN (Km415.sum ((Km415.kinds 8 b).map y.minutesOf))) H'
theorem ok_minutes_of (F:Fun K "minutes_of" "minutes_of" s_minutes_of f fd) (T:Txt K mg t) (F_kinds_in:Fd P w K mg base "kinds_in" 1 ["bits"] sp_kinds_in):FnOk P w K mg base CX0 2 f fd ["yard","bits"] (sp_minutes_of t):=by
 refine F.ok sc_minutes_of (fun vs H Q E h=>?_) (fun cdv _ outer s H vs Q E hr h=>?_)
 ·obtain ⟨A,y,b,rfl,_⟩:=h;rfl
 ·obtain ⟨A,y,b,rfl,hy,g,hb,k⟩:=h
  have nd:=sc_minutes_of.nd
  have hb8:b < 2^8:=Nat.lt_of_lt_of_le hb (Nat.pow_le_pow_right (by decide) g)
  refine ⟨_,(pss_one (ps_ret (pe_callB (cr_sumK K rfl) (by rfl) T.b_sum PyProof.Rows.boot_sum (pa_cons (pe_lc rfl nd (pi_listK K (pe_fn F_kinds_in (hr.mono (by decide)) rfl (pa_cons (pv 1) pa_nil))) (blkOk_by (own:=[("t",2)]) rfl) (fun _ _ _ _ _=>(pg_name (i:=2) nd rfl (by walk_at "lo"))) (fun _ _ _ _ _=>pts_nil) (fun _ _ _ _ _=>(pe_fldK K (pe_ix (ix_listK K) (pe_fldK K (pv 0) rfl) (pv 2) (fun _ _=>rfl)) rfl))) pa_nil)))),?_⟩
  walk_at "rd"
  refine ⟨hb8,fun H1 p s1 hp hl=>?_⟩
  refine ⟨p,rfl,⟨_,SqL.of hl⟩,fun D hD=>?_⟩
  refine lc_list (K:=K) (a:=p) (xs:=(Km415.kinds 8 b).map iN) (fun i H'=>Same H1 H'∧H' D=some (.lst (((((Km415.kinds 8 b).take i).map y.minutesOf)).map iN))) ⟨same_new hD,upd_same⟩ (fun i H' _ ⟨s2,_⟩=>SqL.of (s2 _ _ hl)) ?_ ?_
  ·rintro i x H' hx ⟨s2,hD'⟩
   obtain ⟨n,hn,rfl⟩:=map_get hx
   have hmem:=mem_kinds.mp (List.mem_of_getElem? hn)
   have hnt:n < y.types.length:=lt_of_testBit hb hmem.2
   have hy2:=hy.same (s1.trans s2)
   obtain ⟨dy,hme⟩:=hy2.me
   have hkl:=hy2.kl
   have hx:y.types[n]?=some y.types[n]:=List.getElem?_eq_getElem hnt
   obtain ⟨bb,db,hbb,hk⟩:=hy2.kind hx
   refine ⟨rfl,?_⟩
   walk_at "rd"
   refine ⟨_,hD',small ?_,same_upd s2 hD,?_⟩
   ·rw [List.length_map,List.length_map,List.length_take]
    have:=kinds_length_le 8 b
    omega
   ·rw [upd_same,take_snoc hn,List.map_append,List.map_append]
    have e:y.minutesOf n=(y.types[n]).minutes:=by unfold Km415.Yard.minutesOf;rw [hx]
    show _=some (HO.lst (_++[iN (y.minutesOf n)]))
    rw [e]
  ·rintro H' ⟨s2,hD'⟩
   rw [List.length_map,List.take_length] at hD'
   refine ⟨D,((Km415.kinds 8 b).map y.minutesOf).map fun (n:Nat)=>(n:Int),rfl,SqL.of (by rw [hD',iN_int]),?_⟩
   rw [sum_int]
   exact k H' (s1.trans s2)
def sp_kilograms_of (t:Adr):Sp:=fun vs H Q _=>∃A y b,vs=[.ref A.a,iN b]∧YardAt t H A y∧y.types.length≤8∧b < 2^y.types.length∧∀H',Same H H'→Q (iN (Km415.sum ((Km415.kinds 8 b).map y.kgOf))) H'
theorem ok_kilograms_of (F:Fun K "kilograms_of" "kilograms_of" s_kilograms_of f fd) (T:Txt K mg t) (F_kinds_in:Fd P w K mg base "kinds_in" 1 ["bits"] sp_kinds_in):FnOk P w K mg base CX0 2 f fd ["yard","bits"] (sp_kilograms_of t):=by
 refine F.ok sc_kilograms_of (fun vs H Q E h=>?_) (fun cdv _ outer s H vs Q E hr h=>?_)
 ·obtain ⟨A,y,b,rfl,_⟩:=h;rfl
 ·obtain ⟨A,y,b,rfl,hy,g,hb,k⟩:=h
  have nd:=sc_kilograms_of.nd
  have hb8:b < 2^8:=Nat.lt_of_lt_of_le hb (Nat.pow_le_pow_right (by decide) g)
  refine ⟨_,(pss_one (ps_ret (pe_callB (cr_sumK K rfl) (by rfl) T.b_sum PyProof.Rows.boot_sum (pa_cons (pe_lc rfl nd (pi_listK K (pe_fn F_kinds_in (hr.mono (by decide)) rfl (pa_cons (pv 1) pa_nil))) (blkOk_by (own:=[("t",2)]) rfl) (fun _ _ _ _ _=>(pg_name (i:=2) nd rfl (by walk_at "lo"))) (fun _ _ _ _ _=>pts_nil) (fun _ _ _ _ _=>(pe_fldK K (pe_ix (ix_listK K) (pe_fldK K (pv 0) rfl) (pv 2) (fun _ _=>rfl)) rfl))) pa_nil)))),?_⟩
  walk_at "rd"
  refine ⟨hb8,fun H1 p s1 hp hl=>?_⟩
  refine ⟨p,rfl,⟨_,SqL.of hl⟩,fun D hD=>?_⟩
  refine lc_list (K:=K) (a:=p) (xs:=(Km415.kinds 8 b).map iN) (fun i H'=>Same H1 H'∧H' D=some (.lst (((((Km415.kinds 8 b).take i).map y.kgOf)).map iN))) ⟨same_new hD,upd_same⟩ (fun i H' _ ⟨s2,_⟩=>SqL.of (s2 _ _ hl)) ?_ ?_
  ·rintro i x H' hx ⟨s2,hD'⟩
   obtain ⟨n,hn,rfl⟩:=map_get hx
   have hmem:=mem_kinds.mp (List.mem_of_getElem? hn)
   have hnt:n < y.types.length:=lt_of_testBit hb hmem.2
   have hy2:=hy.same (s1.trans s2)
   obtain ⟨dy,hme⟩:=hy2.me
   have hkl:=hy2.kl
   have hx:y.types[n]?=some y.types[n]:=List.getElem?_eq_getElem hnt
   obtain ⟨bb,db,hbb,hk⟩:=hy2.kind hx
   refine ⟨rfl,?_⟩
   walk_at "rd"
   refine ⟨_,hD',small ?_,same_upd s2 hD,?_⟩
   ·rw [List.length_map,List.length_map,List.length_take]
    have:=kinds_length_le 8 b
    omega
   ·rw [upd_same,take_snoc hn,List.map_append,List.map_append]
    have e:y.kgOf n=(y.types[n]).kg:=by unfold Km415.Yard.kgOf;rw [hx]
    show _=some (HO.lst (_++[iN (y.kgOf n)]))
    rw [e]
  ·rintro H' ⟨s2,hD'⟩
   rw [List.length_map,List.take_length] at hD'
   refine ⟨D,((Km415.kinds 8 b).map y.kgOf).map fun (n:Nat)=>(n:Int),rfl,SqL.of (by rw [hD',iN_int]),?_⟩
   rw [sum_int]
   exact k H' (s1.trans s2)
def sp_may_come_off (t:Adr):Sp:=fun vs H Q _=>∃A y a dx c n,vs=[.ref A.a,.ref a,iN n]∧YardAt t H A y∧Good y∧H a=some (.ins t.cCar dx (carF c))∧c.has < 2^y.types.length∧c.gone=false∧Q (.bl (y.can c n)) H
theorem can_eq {y:Km415.Yard} (g:Good y) {c:Km415.Car} (hg:c.gone=false) (n:Nat):y.can c n=(decide (c.litres=0)&&(c.has.testBit n&&decide (y.needsOf n &&& c.has=0))):=by
 have h8:y.needsOf n < 2^8:=by
  by_cases h:n < y.types.length
  ·exact Nat.lt_of_lt_of_le (g.needs n) (Nat.pow_le_pow_right (by decide) (by have:=g.tl;omega))
  ·rw [needs_out (by omega)];decide
 unfold Km415.Yard.can
 rw [hg,show Km415.TYPES=8 from rfl,all_off h8]
 cases decide (y.needsOf n &&& c.has=0) <;> cases c.has.testBit n <;> cases h:decide (c.litres=0) <;> simp_all
theorem ok_may_come_off (F:Fun K "may_come_off" "may_come_off" s_may_come_off f fd) (T:Txt K mg t) (F_is_dry:Fd P w K mg base "is_dry" 1 ["car"] (sp_is_dry t)) (F_has_part:Fd P w K mg base "has_part" 1 ["car","t"] (sp_has_part t))
  (F_is_held_back:Fd P w K mg base "is_held_back" 1 ["yard","car","t"] (sp_is_held_back t)):FnOk P w K mg base CX0 2 f fd ["yard","car","t"] (sp_may_come_off t):=by
 refine F.ok sc_may_come_off (fun vs H Q E h=>?_) (fun cdv _ outer s H vs Q E hr h=>?_)
 ·obtain ⟨A,y,a,dx,c,n,rfl,_⟩:=h;rfl
 ·obtain ⟨A,y,a,dx,c,n,rfl,hy,g,ha,hh,hg,k⟩:=h
  have nd:=sc_may_come_off.nd
  rw [can_eq g hg] at k
  refine ⟨_,(pss_one (ps_ret (pe_and (pe_fn F_is_dry (hr.mono (by decide)) rfl (pa_cons (pv 1) pa_nil)) (pe_and (pe_fn F_has_part (hr.mono (by decide)) rfl (pa_cons (pv 1) (pa_cons (pv 2) pa_nil))) (pe_one (pe_not (pe_fn F_is_held_back (hr.mono (by decide)) rfl (pa_cons (pv 0) (pa_cons (pv 1) (pa_cons (pv 2) pa_nil)))))))))),?_⟩
  walk_at "rd"
  refine ⟨a,dx,c,rfl,ha,_,rfl,ite2 (fun h1=>?_) fun h1=>?_⟩
  ·walk_at "rd"
   refine ⟨a,dx,c,n,rfl,ha,_,rfl,ite2 (fun h2=>?_) fun h2=>?_⟩
   ·walk_at "rd"
    refine ⟨A,y,a,dx,c,n,rfl,hy,ha,lt_of_testBit hh h2,_,rfl,?_⟩
    rw [h1,h2] at k
    simp only [Bool.true_and] at k
    rw [Bool.not_not]
    exact k
   ·rw [h1,Bool.not_eq_true _ |>.mp h2] at k
    exact k
  ·rw [Bool.not_eq_true _ |>.mp h1] at k
   exact k
def mustS (needs:Nat→Nat) (has b:Nat) (n:Nat):Nat→Nat
 | 0=>b
 | i+1=>if (mustS needs has b n i).testBit (n - 1 - i)=true then mustS needs has b n i ||| (needs (n - 1 - i) &&& has) else mustS needs has b n i
theorem mustS_eq (needs:Nat→Nat) (has n:Nat):∀(i:Nat) (b:Nat),i≤n→mustN needs has (n - i) (mustS needs has b n i)=mustN needs has n b
 | 0,b,_=>rfl
 | i+1,b,h=>by
  rw [←mustS_eq needs has n i b (by omega)]
  obtain ⟨m,hm⟩:∃m,n - i=m+1:=⟨n - i - 1,by omega⟩
  have e1:n - (i+1)=m:=by omega
  have e2:n - 1 - i=m:=by omega
  rw [hm,e1]
  show mustN needs has m (if (mustS needs has b n i).testBit (n - 1 - i)=true then _ else _)=mustN needs has m (if (mustS needs has b n i).testBit m=true then _ else _)
  rw [e2]
def sp_must_come_off (t:Adr):Sp:=fun vs H Q _=>∃A y a dx c b,vs=[.ref A.a,.ref a,iN b]∧YardAt t H A y∧Good y∧H a=some (.ins t.cCar dx (carF c))∧Q (iN (y.closed c 8 b)) H
theorem ok_must_come_off (F:Fun K "must_come_off" "must_come_off" s_must_come_off f fd) (T:Txt K mg t):FnOk P w K mg base CX0 1 f fd ["yard","car","wanted"] (sp_must_come_off t):=by
 refine F.ok sc_must_come_off (fun vs H Q E h=>?_) (fun cdv _ outer s H vs Q E hr h=>?_)
 ·obtain ⟨A,y,a,dx,c,b,rfl,_⟩:=h;rfl
 ·obtain ⟨A,y,a,dx,c,b,rfl,hy,g,ha,k⟩:=h
  have nd:=sc_must_come_off.nd
  obtain ⟨dy,hme⟩:=hy.me
  have hkl:=hy.kl
  have hkn:=hy.kn
  have htl:=g.tl
  refine ⟨_,(pss_cons (ps_set (i:=3) nd rfl (by walk_at "lo") (pv 2)) (pss_cons (ps_for PassesOwn.never rfl (pi_range3 rfl T.b_range (pa_cons (pe_op op_sub (pe_callB (call_lenK K) (by rfl) T.b_len PySem.boot_len (pa_cons (pe_fldK K (pv 0) rfl) pa_nil)) pe_int) (pa_cons (pe_un un_neg pe_int) (pa_cons (pe_un un_neg pe_int) pa_nil)))) (pg_name (i:=4) nd rfl (by walk_at "lo")) (pss_one (ps_if (pt_cmpR op_eq (pe_op op_and (pe_op op_shr (pv 3) (pv 4)) pe_int) pe_int (nomark _)) (pss_one (ps_set (i:=3) nd rfl (by walk_at "lo") (pe_op op_or (pv 3) (pe_op op_and (pe_fldK K (pe_ix (ix_listK K) (pe_fldK K (pv 0) rfl) (pv 4) (fun _ _=>rfl)) rfl) (pe_fldK K (pv 1) rfl))))) pss_nil))) (pss_one (ps_ret (pv 3))))),?_⟩
  walk_at "rd"
  refine ⟨_,_,_,_,rfl,RgC.neg (by omega) (by omega) (by omega) (by omega),?_⟩
  refine for_rangeC (fun i σ H'=>H'=H∧∃v4,σ=[some (.ref A.a),some (.ref a),some (iN b),some (iN (mustS y.needsOf c.has b y.types.length i)),v4]) ⟨rfl,none,rfl⟩ ?_ ?_
  ·rintro i σ H' hi ⟨rfl,v4,rfl⟩
   have hi':i < y.types.length:=by omega
   have et:((A.ks.map V.ref).length:Int) - 1+(i:Nat) * -1=((y.types.length - 1 - i:Nat):Int):=by omega
   have hx:y.types[y.types.length - 1 - i]?=some y.types[y.types.length - 1 - i]:=List.getElem?_eq_getElem (by omega)
   obtain ⟨bb,db,hbb,hk⟩:=hy.kind hx
   have en:y.needsOf (y.types.length - 1 - i)=(y.types[y.types.length - 1 - i]).needs:=by unfold Km415.Yard.needsOf;rw [hx]
   rw [et]
   walk_at "rd"
   show if decide (V.int (Builtin.bitAnd ((mustS y.needsOf c.has b y.types.length i:Int) / 2^(((y.types.length - 1 - i:Nat):Int)).toNat) 1)=V.int 1)=true then _ else _
   rw [bit_nat]
   refine ite2 (fun h=>?_) fun h=>?_
   ·walk_at "rd"
    refine ⟨some (iN (y.types.length - 1 - i)),?_⟩
    have e:mustS y.needsOf c.has b y.types.length (i+1)=mustS y.needsOf c.has b y.types.length i ||| (y.needsOf (y.types.length - 1 - i) &&& c.has):=if_pos h
    rw [e,en]
    show [some (V.ref A.a),some (V.ref a),some (iN b),some (V.int (Builtin.bitOr ((mustS y.needsOf c.has b y.types.length i:Nat):Int) (Builtin.bitAnd ((y.types[y.types.length - 1 - i]).needs:Int) (c.has:Int)))),some (iN (y.types.length - 1 - i))]=_
    rw [and_nat,or_nat]
   ·refine ⟨rfl,some (iN (y.types.length - 1 - i)),?_⟩
    have e:mustS y.needsOf c.has b y.types.length (i+1)=mustS y.needsOf c.has b y.types.length i:=if_neg h
    rw [e]
    rfl
  ·rintro σ H' ⟨rfl,v4,rfl⟩
   refine ⟨_,rfl,?_⟩
   have e:(((A.ks.map V.ref).length:Int) - 1 - -1).toNat=y.types.length:=by omega
   rw [e]
   rw [show (8:Nat)=Km415.TYPES from rfl,g.closed] at k
   have e2:=mustS_eq y.needsOf c.has y.types.length y.types.length b (Nat.le_refl _)
   rw [Nat.sub_self] at e2
   have e3:mustS y.needsOf c.has b y.types.length y.types.length=mustN y.needsOf c.has y.types.length b:=e2
   rw [e3]
   exact k
end
end Y58
namespace Y58
open PySem PySem.Spec PyProof.Rows L2
abbrev s_take_off:Stmt:=top 12
theorem sc_take_off:FnScope ["yard","car","bits","t","place","minutes"] ["yard","car","bits"] (defScope s_take_off):=by walk_at "sc"
section
variable {P:Program} {w:World} {K:PySem.W.Frag} {mg:Str→Option Value} {base:Heap} {t:Adr} {f:Addr} {fd:FuncData}
def harmN (y:Km415.Yard) (i:Nat):Nat:=Km415.bitsOf ((List.range i).filter fun t=>match y.types[t]? with | some x=>x.harm | none=>false)
theorem harmN_succ (y:Km415.Yard) {i:Nat} {x:Km415.Type_} (h:y.types[i]?=some x):harmN y (i+1)=harmN y i ||| (Km415.bit x.harm * 2^i):=by
 unfold harmN
 rw [List.range_succ,List.filter_append]
 cases e:x.harm with
 | true =>
  simp only [List.filter_cons,h,e,if_true,List.filter_nil]
  unfold Km415.bitsOf
  rw [List.foldl_append]
  show _ ||| 2^i=_ ||| 1 * 2^i
  rw [Nat.one_mul]
 | false =>
  simp only [List.filter_cons,h,e,Bool.false_eq_true,if_false,List.filter_nil,List.append_nil]
  show _=_ ||| 0 * 2^i
  rw [Nat.zero_mul,Nat.or_zero]
theorem harm_and {y:Km415.Yard} (c:Km415.Car) (hc:c.has < 2^y.types.length) (h8:y.types.length≤8):c.has &&& harmN y y.types.length=Km415.bitsOf (y.bad c):=by
 apply Nat.eq_of_testBit_eq
 intro u
 unfold harmN Km415.Yard.bad
 rw [Nat.testBit_and,testBit_bitsOf,testBit_bitsOf,Bool.eq_iff_iff,Bool.and_eq_true,contains_iff,contains_iff,List.mem_filter,List.mem_filter,mem_kinds,List.mem_range]
 constructor
 ·intro ⟨h1,h2,h3⟩
  exact ⟨⟨Nat.lt_of_lt_of_le h2 h8,h1⟩,h3⟩
 ·intro ⟨⟨_,h1⟩,h3⟩
  exact ⟨h1,lt_of_testBit hc h1,h3⟩
theorem bitsOf_zero {l:List Nat}:Km415.bitsOf l=0↔l=[]:=by
 constructor
 ·intro h
  cases l with
  | nil=>rfl
  | cons a l =>
   have:=testBit_bitsOf (a::l) a
   rw [h,Nat.zero_testBit] at this
   simp at this
 ·intro h;subst h;rfl
def sp_harmful_kinds (t:Adr):Sp:=fun vs H Q _=>∃A y,vs=[.ref A.a]∧YardAt t H A y∧Good y∧∀H',Same H H'→Q (iN (harmN y y.types.length)) H'
theorem ok_harmful_kinds (F:Fun K "harmful_kinds" "harmful_kinds" s_harmful_kinds f fd) (T:Txt K mg t):FnOk P w K mg base CX0 1 f fd ["yard"] (sp_harmful_kinds t):=by
 refine F.ok sc_harmful_kinds (fun vs H Q E h=>?_) (fun cdv _ outer s H vs Q E hr h=>?_)
 ·obtain ⟨A,y,rfl,_⟩:=h;rfl
 ·obtain ⟨A,y,rfl,hy,g,k⟩:=h
  have nd:=sc_harmful_kinds.nd
  obtain ⟨dy,hme⟩:=hy.me
  have hkl:=hy.kl
  have hkn:=hy.kn
  refine ⟨_,(pss_cons (ps_set (i:=1) nd rfl (by walk_at "lo") pe_int) (pss_cons (ps_for PassesOwn.never rfl (pi_enumK K rfl T.b_enumerate (pa_cons (pe_fldK K (pv 0) rfl) pa_nil)) (pg_tupK K (n:=2) rfl (pgs_cons (pg_name (i:=2) nd rfl (by walk_at "lo")) (pgs_cons (pg_name (i:=3) nd rfl (by walk_at "lo")) pgs_nil))) (pss_one (ps_set (i:=1) nd rfl (by walk_at "lo") (pe_op op_or (pv 1) (pe_op op_shl (pe_fldK K (pv 3) rfl) (pv 2)))))) (pss_one (ps_ret (pv 1))))),?_⟩
  walk_at "rd"
  refine ⟨_,_,rfl,SqL.of hkl,?_⟩
  refine for_it (n:=y.types.length) (fun i σ H'=>Same H H'∧∃v2 v3,σ=[some (.ref A.a),some (iN (harmN y i)),v2,v3]) ⟨Same.refl H,none,none,rfl⟩ ?_ ?_ ?_ ?_
  ·rintro i σ H' hi ⟨s1,_⟩
   have hx:y.types[i]?=some y.types[i]:=List.getElem?_eq_getElem hi
   obtain ⟨b,db,hb,_⟩:=hy.kind hx
   exact ⟨_,_,SqL.of (s1 _ _ hkl),hb⟩
  ·rintro σ H' ⟨s1,_⟩
   exact ⟨_,SqL.of (s1 _ _ hkl),by omega⟩
  ·rintro i x σ H' H2 hi ⟨s1,v2,v3,rfl⟩ ⟨T',z,rfl,hT,rfl,hz⟩
   have hx:y.types[i]?=some y.types[i]:=List.getElem?_eq_getElem hi
   obtain ⟨b,db,hb,hk⟩:=(hy.same s1).kind hx
   have ez:=hz _ (SqL.of (s1 _ _ hkl))
   rw [hb] at ez
   cases ez
   have hk2:(upd H' T' (.tup [.int (i:Nat),.ref b])) b=some (.ins t.cKind db (kindF y.types[i])):=by rw [upd_ne (ne_of_none hk hT)];exact hk
   refine ⟨T',_,rfl,SqT.of upd_same,rfl,_,_,rfl,_,_,rfl,rfl,?_⟩
   walk_at "rd"
   have hbit:Km415.bit (y.types[i]).harm≤1:=by unfold Km415.bit;split <;> omega
   have h8:=g.tl
   refine ⟨cpow_nat (by omega) (by omega),?_⟩
   walk_at "rd"
   refine ⟨same_upd s1 (s1.free hT),some (iN i),some (.ref b),?_⟩
   rw [harmN_succ y hx]
   show [some (V.ref A.a),some (V.int (Builtin.bitOr ((harmN y i:Nat):Int) ((Km415.bit (y.types[i]).harm:Int) * 2^((i:Int)).toNat))),some (iN i),some (V.ref b)]=_
   rw [mulpow_nat,or_nat]
  ·rintro σ H' ⟨s1,v2,v3,rfl⟩
   exact ⟨_,rfl,k H' s1⟩
def sp_free_places (t:Adr):Sp:=fun vs H Q _=>∃A y,vs=[.ref A.a]∧YardAt t H A y∧Good y∧Q (iN y.room.length) H
theorem parts_ok {t:Adr} {H:Hp} {A:YA} {y:Km415.Yard} (h:YardAt t H A y):∀v∈A.sv,NoneOrTup K H v:=by
 intro v hv
 obtain ⟨i,hi,e⟩:=List.getElem_of_mem hv
 obtain ⟨o,_,r⟩:=paired_get' h.st (show A.sv[i]?=some v by rw [List.getElem?_eq_getElem hi,e])
 cases o with
 | none=>exact .inl r
 | some p=>obtain ⟨b,e,q⟩:=r;exact .inr ⟨b,_,e,SqT.of q⟩
theorem part_none {H:Hp} {v:V} {o:Option Km415.Part} (h:PartAt H v o):decide (v=V.non)=o.isNone:=by
 cases o with
 | none=>have h':v=V.non:=h;subst h';rfl
 | some p=>obtain ⟨b,e,_⟩:=h;subst e;rfl
theorem count_none {H:Hp}:∀{l:List V} {m:List (Option Km415.Part)},Paired (PartAt H) l m→(l.countP fun v=>decide (v=V.non))=(m.filter fun x=>x.isNone).length
 | _,_,.nil=>rfl
 | _,_,.cons r t=>by
  rw [List.countP_cons,List.filter_cons,count_none t,part_none r]
  split <;> simp
theorem ok_free_places (F:Fun K "free_places" "free_places" s_free_places f fd) (T:Txt K mg t):FnOk P w K mg base CX0 1 f fd ["yard"] (sp_free_places t):=by
 refine F.ok sc_free_places (fun vs H Q E h=>?_) (fun cdv _ outer s H vs Q E hr h=>?_)
 ·obtain ⟨A,y,rfl,_⟩:=h;rfl
 ·obtain ⟨A,y,rfl,hy,g,k⟩:=h
  have nd:=sc_free_places.nd
  obtain ⟨dy,hme⟩:=hy.me
  refine ⟨_,(pss_one (ps_ret (pe_bmK K PySem.F.plainAttrs_list PySem.F.slot_list_count PySem.F.type_list_count (mt_countNK K (hu_of hr)) (pe_fldK K (pv 0) rfl) (pa_cons pe_non pa_nil)))),?_⟩
  walk_at "rd"
  refine ⟨.inl ⟨rfl,_,SqL.of hy.sl⟩,A.sl,_,rfl,rfl,SqL.of hy.sl,parts_ok hy,?_⟩
  rw [count_none hy.st,←frees_length g.sl]
  exact k
end
end Y58
namespace Y58
open PySem PySem.Spec PyProof.Rows L2
section
variable {P:Program} {w:World} {K:PySem.W.Frag} {mg:Str→Option Value} {base:Heap} {t:Adr} {f:Addr} {fd:FuncData}
def Keep (b:Addr) (H H':Hp):Prop:=∀a o,H a=some o→a≠b→H' a=some o
theorem Keep.upd (b:Addr) (H:Hp) (o:HO):Keep b H (L2.upd H b o):=fun a u e h=>by rw [upd_ne h];exact e
theorem ne_fs {H:Hp} {a b C C' d d':Addr} {fs fs':List (Str×V)} (h:H a=some (.ins C d fs)) (h':H b=some (.ins C' d' fs')) (n:fs.length≠fs'.length):a≠b:=by
 intro e
 subst e
 rw [h] at h'
 cases h'
 exact n rfl
theorem ne_li {H:Hp} {a b C d:Addr} {fs:List (Str×V)} {xs:List V} (h:H a=some (.lst xs)) (h':H b=some (.ins C d fs)):a≠b:=ne_of h h' (by intro z;cases z)
theorem ne_ti {H:Hp} {a b C d:Addr} {fs:List (Str×V)} {xs:List V} (h:H a=some (.tup xs)) (h':H b=some (.ins C d fs)):a≠b:=ne_of h h' (by intro z;cases z)
theorem ne_tl {H:Hp} {a b:Addr} {xs ys:List V} (h:H a=some (.tup xs)) (h':H b=some (.lst ys)):a≠b:=ne_of h h' (by intro z;cases z)
theorem ne_il {H:Hp} {a b C d:Addr} {fs:List (Str×V)} {xs:List V} (h:H a=some (.ins C d fs)) (h':H b=some (.lst xs)):a≠b:=ne_of h h' (by intro z;cases z)
section
variable {H H':Hp} {A:YA} {y y':Km415.Yard}
theorem parts_keep {b:Addr} (kp:Keep b H H') (nt:∀a xs,H a=some (.tup xs)→a≠b) {l:List V} {m:List (Option Km415.Part)} (h:Paired (PartAt H) l m):Paired (PartAt H') l m :=
 Paired.mapP h fun v o r=>by
  cases o with
  | none=>exact r
  | some p=>obtain ⟨c,e,q⟩:=r;exact ⟨c,e,kp _ _ q (nt _ _ q)⟩
theorem kinds_keep {b:Addr} (kp:Keep b H H') (n:∀a d (x:Km415.Type_),H a=some (.ins t.cKind d (kindF x))→a≠b) {l:List Addr} {m:List Km415.Type_} (h:Paired (KindAt t H) l m):Paired (KindAt t H') l m :=
 Paired.mapP h fun v o ⟨d,q⟩=>⟨d,kp _ _ q (n _ _ _ q)⟩
theorem models_keep {b:Addr} (kp:Keep b H H') (n:∀a d (x:Km415.Model) g,H a=some (.ins t.cModel d (modelF x g))→a≠b) (nt:∀a xs,H a=some (.tup xs)→a≠b) {l:List Addr} {m:List Km415.Model} (h:Paired (ModelAt t H) l m):Paired (ModelAt t H') l m :=
 Paired.mapP h fun v o ⟨d,g,q,q2⟩=>⟨d,g,kp _ _ q (n _ _ _ _ q),kp _ _ q2 (nt _ _ q2)⟩
theorem cars_keep {b:Addr} (kp:Keep b H H') {l:List Addr} {m:List Km415.Car} (h:Paired (CarAt t H) l m) (n:∀a∈l,a≠b):Paired (CarAt t H') l m:=by
 induction h with
 | nil=>exact .nil
 | cons r _ ih =>
  obtain ⟨d,q⟩:=r
  exact .cons ⟨d,kp _ _ q (n _ List.mem_cons_self)⟩ (ih fun a ha=>n a (List.mem_cons_of_mem _ ha))
theorem cars_set {b:Addr} {c:Km415.Car} (kp:Keep b H H') (hb:CarAt t H' b c):∀{l:List Addr} {m:List Km415.Car} {k:Nat},Paired (CarAt t H) l m→l.Nodup→l[k]?=some b→Paired (CarAt t H') l (m.set k c)
 | _,_,_,.nil,_,e=>by simp at e
 | a::l,_::m,0,.cons _ r,nd,e=>by
  have e':a=b:=Option.some.inj e
  subst e'
  exact .cons hb (cars_keep kp r fun x hx q=>(List.nodup_cons.mp nd).1 (q ▸ hx))
 | a::l,_::m,k+1,.cons q r,nd,e=>by
  have hm:b∈l:=List.mem_of_getElem? (show l[k]?=some b from e)
  obtain ⟨d,hd⟩:=q
  exact .cons ⟨d,kp _ _ hd fun z=>(List.nodup_cons.mp nd).1 (z ▸ hm)⟩ (cars_set kp hb r (List.nodup_cons.mp nd).2 e)
theorem YardAt.setCar (h:YardAt t H A y) {k:Nat} {b:Addr} {c:Km415.Car} (hb:A.cs[k]?=some b) (hc:CarAt t H' b c) (kp:Keep b H H'):YardAt t H' A { y with cars:=y.cars.set k c }:=by
 obtain ⟨c0,_,⟨d0,h0⟩⟩:=paired_get' h.cs hb
 obtain ⟨dy,hy⟩:=h.me
 refine ⟨⟨dy,kp _ _ hy (ne_fs hy h0 (by show 12≠5;decide))⟩,kp _ _ h.kl (ne_li h.kl h0),kp _ _ h.ml (ne_li h.ml h0),kp _ _ h.cl (ne_li h.cl h0),kp _ _ h.sl (ne_li h.sl h0),
  kinds_keep kp (fun a d x q=>ne_fs q h0 (by show 4≠5;decide)) h.ks,models_keep kp (fun a d x g q=>ne_fs q h0 (by show 3≠5;decide)) (fun a xs q=>ne_ti q h0) h.ms,cars_set kp hc h.cs h.nd hb,parts_keep kp (fun a xs q=>ne_ti q h0) h.st,h.nd⟩
theorem YardAt.setMe (h:YardAt t H A y) (ht:y'.types=y.types) (hm:y'.models=y.models) (hc:y'.cars=y.cars) (hs:y'.stock=y.stock) (me:∃dx,H' A.a=some (.ins t.cYard dx (yardF A y'))) (kp:Keep A.a H H'):YardAt t H' A y':=by
 obtain ⟨dy,hy⟩:=h.me
 refine ⟨me,kp _ _ h.kl (ne_li h.kl hy),kp _ _ h.ml (ne_li h.ml hy),kp _ _ h.cl (ne_li h.cl hy),kp _ _ h.sl (ne_li h.sl hy),?_,?_,?_,?_,h.nd⟩
 ·rw [ht];exact kinds_keep kp (fun a d x q=>ne_fs q hy (by show 4≠12;decide)) h.ks
 ·rw [hm];exact models_keep kp (fun a d x g q=>ne_fs q hy (by show 3≠12;decide)) (fun a xs q=>ne_ti q hy) h.ms
 ·rw [hc]
  refine cars_keep kp h.cs fun a ha=>?_
  obtain ⟨i,hi,e⟩:=List.getElem_of_mem ha
  obtain ⟨c,_,⟨d,hd⟩⟩:=paired_get' h.cs (show A.cs[i]?=some a by rw [List.getElem?_eq_getElem hi,e])
  exact ne_fs hd hy (by show 5≠12;decide)
 ·rw [hs];exact parts_keep kp (fun a xs q=>ne_ti q hy) h.st
theorem YardAt.setStock (h:YardAt t H A y) {sv:List V} {st:List (Option Km415.Part)} (hk:A.kl≠A.sl) (hm:A.ml≠A.sl) (hc:A.cl≠A.sl) (hs:H' A.sl=some (.lst sv)) (hp:Paired (PartAt H') sv st) (kp:Keep A.sl H H') :
  YardAt t H' { A with sv:=sv } { y with stock:=st }:=by
 obtain ⟨dy,hy⟩:=h.me
 refine ⟨⟨dy,kp _ _ hy (ne_il hy h.sl)⟩,kp _ _ h.kl hk,kp _ _ h.ml hm,kp _ _ h.cl hc,hs,kinds_keep kp (fun a d x q=>ne_il q h.sl) h.ks,models_keep kp (fun a d x g q=>ne_il q h.sl) (fun a xs q=>ne_tl q h.sl) h.ms,cars_keep kp h.cs fun a ha=>?_,hp,h.nd⟩
 obtain ⟨i,hi,e⟩:=List.getElem_of_mem ha
 obtain ⟨c,_,⟨d,hd⟩⟩:=paired_get' h.cs (show A.cs[i]?=some a by rw [List.getElem?_eq_getElem hi,e])
 exact ne_il hd h.sl
end
structure Draft (t:Adr) (H0 H:Hp) (A:YA) (y:Km415.Yard):Prop where
 at_:YardAt t H A y
 same:Same H0 H
 fa:H0 A.a=none
 fk:H0 A.kl=none
 fm:H0 A.ml=none
 fc:H0 A.cl=none
 fs:H0 A.sl=none
 fcs:∀b∈A.cs,H0 b=none
 ap:[A.kl,A.ml,A.cl,A.sl].Nodup
section
variable {H0 H H':Hp} {A:YA} {y y':Km415.Yard}
theorem Draft.keep {b:Addr} (h:Draft t H0 H A y) (n:H0 b=none) (kp:Keep b H H'):Same H0 H':=fun a o e=>kp a o (h.same a o e) (ne_of_none e n)
theorem Draft.grow (h:Draft t H0 H A y) (s:Same H H'):Draft t H0 H' A y:=⟨h.at_.same s,h.same.trans s,h.fa,h.fk,h.fm,h.fc,h.fs,h.fcs,h.ap⟩
theorem Draft.ne3 (h:Draft t H0 H A y):A.kl≠A.sl∧A.ml≠A.sl∧A.cl≠A.sl:=by
 have:=h.ap
 simp only [List.nodup_cons,List.mem_cons,List.not_mem_nil,or_false,not_or] at this
 exact ⟨this.1.2.2,this.2.1.2,this.2.2.1⟩
theorem Draft.setCar (h:Draft t H0 H A y) {k:Nat} {b:Addr} {c:Km415.Car} (hb:A.cs[k]?=some b) (hc:CarAt t H' b c) (kp:Keep b H H'):Draft t H0 H' A { y with cars:=y.cars.set k c } :=
 ⟨h.at_.setCar hb hc kp,h.keep (h.fcs b (List.mem_of_getElem? hb)) kp,h.fa,h.fk,h.fm,h.fc,h.fs,h.fcs,h.ap⟩
theorem Draft.setMe (h:Draft t H0 H A y) (ht:y'.types=y.types) (hm:y'.models=y.models) (hc:y'.cars=y.cars) (hs:y'.stock=y.stock) (me:∃dx,H' A.a=some (.ins t.cYard dx (yardF A y'))) (kp:Keep A.a H H'):Draft t H0 H' A y' :=
 ⟨h.at_.setMe ht hm hc hs me kp,h.keep h.fa kp,h.fa,h.fk,h.fm,h.fc,h.fs,h.fcs,h.ap⟩
theorem Draft.setStock (h:Draft t H0 H A y) {sv:List V} {st:List (Option Km415.Part)} (hs:H' A.sl=some (.lst sv)) (hp:Paired (PartAt H') sv st) (kp:Keep A.sl H H'):Draft t H0 H' { A with sv:=sv } { y with stock:=st } :=
 ⟨h.at_.setStock h.ne3.1 h.ne3.2.1 h.ne3.2.2 hs hp kp,h.keep h.fs kp,h.fa,h.fk,h.fm,h.fc,h.fs,h.fcs,h.ap⟩
end
theorem Draft.putPart {H0 H:Hp} {A:YA} {y:Km415.Yard} (h:Draft t H0 H A y) {j:Nat} {T':Addr} {p:Km415.Part} (hT:H T'=none) :
  Draft t H0 (upd (upd H T' (.tup [iN p.kind,iN p.model])) A.sl (.lst (A.sv.set j (.ref T')))) { A with sv:=A.sv.set j (.ref T') } { y with stock:=y.stock.set j (some p) }:=by
 have h1:=h.grow (same_new (o:=.tup [iN p.kind,iN p.model]) hT)
 refine h1.setStock upd_same ?_ (Keep.upd _ _ _)
 refine paired_set ⟨T',rfl,?_⟩ j (parts_keep (Keep.upd _ _ _) (fun a xs q=>ne_tl q h1.at_.sl) h1.at_.st)
 rw [upd_ne (ne_tl upd_same h1.at_.sl),upd_same]
end
end Y58
namespace Y58
open PySem PySem.Spec PyProof.Rows L2
section
variable {P:Program} {w:World} {K:PySem.W.Frag} {mg:Str→Option Value} {base:Heap} {t:Adr} {f:Addr} {fd:FuncData}
def stockN (s:List (Option Km415.Part)) (l:List Nat) (m i:Nat):List (Option Km415.Part):=((l.take i).map fun u=>Km415.Part.mk u m).foldl place1 s
def sp_take_off (t:Adr):Sp:=fun vs H Q _=>∃H0 A y k b c bits,vs=[.ref A.a,.ref b,iN bits]∧Draft t H0 H A y∧Good y∧A.cs[k]?=some b∧y.cars[k]?=some c∧c.gone=false∧(∀u,bits.testBit u=true→c.has.testBit u=true)∧(Km415.kinds 8 bits).length≤y.room.length ∧
 ∀H' sv,Draft t H0 H' { A with sv:=sv } (y.takes k c (Km415.kinds 8 bits))→Q (iN (Km415.sum ((Km415.kinds 8 bits).map y.minutesOf))) H'
theorem ok_take_off (F:Fun K "take_off" "take_off" s_take_off f fd) (T:Txt K mg t) (F_kinds_in:Fd P w K mg base "kinds_in" 1 ["bits"] sp_kinds_in) (F_minutes_of:Fd P w K mg base "minutes_of" 2 ["yard","bits"] (sp_minutes_of t)) (F_kilograms_of:Fd P w K mg base "kilograms_of" 2 ["yard","bits"] (sp_kilograms_of t)) :
  FnOk P w K mg base CX0 3 f fd ["yard","car","bits"] (sp_take_off t):=by
 refine F.ok sc_take_off (fun vs H Q E h=>?_) (fun cdv _ outer s H vs Q E hr h=>?_)
 ·obtain ⟨H0,A,y,k,b,c,bits,rfl,_⟩:=h;rfl
 ·obtain ⟨H0,A,y,k,b,c,bits,rfl,hd,g,hb,hc,hg,hsub,hroom,kk⟩:=h
  have nd:=sc_take_off.nd
  have hhas:=(g.ca k c hc).2.1
  have hbt:bits < 2^y.types.length:=by
   apply Nat.lt_pow_two_of_testBit
   intro i hi
   apply Bool.eq_false_iff.mpr
   intro q
   have:=lt_of_testBit hhas (hsub i q)
   omega
  have hb8:bits < 2^8:=Nat.lt_of_lt_of_le hbt (Nat.pow_le_pow_right (by decide) g.tl)
  generalize hl:Km415.kinds 8 bits=l at hroom kk
  have hl8:l.length≤8:=by rw [←hl];exact kinds_length_le 8 bits
  refine ⟨_,(pss_cons (ps_for PassesOwn.never rfl (pi_listK K (pe_fn F_kinds_in (hr.mono (by decide)) rfl (pa_cons (pv 2) pa_nil))) (pg_name (i:=3) nd rfl (by walk_at "lo")) (pss_cons (ps_set (i:=4) nd rfl (by walk_at "lo") (pe_bmK K PySem.F.plainAttrs_list PySem.F.slot_list_index PySem.F.type_list_index (mt_indexNK K (hu_of hr)) (pe_fldK K (pv 0) rfl) (pa_cons pe_non pa_nil))) (pss_one (ps_asg (pe_tup (pa_cons (pv 3) (pa_cons (pe_fldK K (pv 1) rfl) pa_nil))) (pg_sub (pe_fldK K (pv 0) rfl) (pv 4) set_list))))) (pss_cons (ps_fldK K (pv 1) (pe_op op_and (pe_fldK K (pv 1) rfl) (pe_un un_inv (pv 2))) rfl) (pss_cons (ps_fldaugK K (pv 1) (pe_fn F_kilograms_of (hr.mono (by decide)) rfl (pa_cons (pv 0) (pa_cons (pv 2) pa_nil))) in_sub) (pss_cons (ps_set (i:=5) nd rfl (by walk_at "lo") (pe_fn F_minutes_of (hr.mono (by decide)) rfl (pa_cons (pv 0) (pa_cons (pv 2) pa_nil)))) (pss_cons (ps_fldaugK K (pv 0) (pv 5) in_add) (pss_one (ps_ret (pv 5)))))))),?_⟩
  walk_at "rd"
  refine ⟨hb8,fun H1 p s1 hp hlp=>?_⟩
  rw [hl] at hlp
  have hd1:=hd.grow s1
  refine ⟨p,rfl,⟨_,SqL.of hlp⟩,?_⟩
  refine for_list (K:=K) (a:=p) (xs:=l.map iN) (fun i σ H'=>H' p=some (.lst (l.map iN))∧∃A' v3 v4,A'={ A with sv:=A'.sv }∧A'.a=A.a∧A'.cs=A.cs∧A'.sl=A.sl∧Draft t H0 H' A' { y with stock:=stockN y.stock l c.model i }∧σ=[some (.ref A.a),some (.ref b),some (iN bits),v3,v4,none])
   ⟨hlp,A,none,none,rfl,rfl,rfl,rfl,hd1,rfl⟩ (fun i σ H' _ q=>SqL.of q.1) ?_ ?_
  ·rintro i x σ H' hx ⟨hlp',A',v3,v4,eA,ea,ec,esl,hd',rfl⟩
   obtain ⟨n,hn,rfl⟩:=map_get hx
   have hil:i < l.length:=(List.getElem?_eq_some_iff.mp hn).1
   obtain ⟨dy,hme⟩:=hd'.at_.me
   rw [ea] at hme
   have hcar:{ y with stock:=stockN y.stock l c.model i }.cars[k]?=some c:=hc
   obtain ⟨b',dc,hb1,_,hcb⟩:=hd'.at_.car hcar
   have eb:b'=b:=Option.some.inj (hb1.symm.trans (by rw [ec];exact hb))
   subst eb
   have hlen:((l.take i).map fun u=>Km415.Part.mk u c.model).length=i:=by rw [List.length_map,List.length_take];omega
   have hroom':l.length≤(frees 30 y.stock).length:=hroom
   obtain ⟨f1,f2⟩:=fold_frees ((l.take i).map fun u=>Km415.Part.mk u c.model) y.stock g.sl (by rw [hlen];omega)
   obtain ⟨j,r,hfr⟩:∃j r,frees 30 (stockN y.stock l c.model i)=j::r:=by
    cases e:frees 30 (stockN y.stock l c.model i) with
    | nil =>
     have f1':(frees 30 (stockN y.stock l c.model i)).length+_=_:=f1
     rw [e,hlen] at f1'
     simp at f1'
     omega
    | cons j r=>exact ⟨j,r,rfl⟩
   obtain ⟨q1,q2,q3⟩:=frees_head hfr f2
   obtain ⟨vj,hvj,hpj⟩:=hd'.at_.part q1
   have hvj':vj=V.non:=hpj
   subst hvj'
   walk_at "rd"
   refine ⟨.inl ⟨rfl,_,SqL.of hd'.at_.sl⟩,A'.sl,A'.sv,j,rfl,rfl,SqL.of hd'.at_.sl,parts_ok hd'.at_,hvj,?_,?_⟩
   ·intro m z hm hz
    obtain ⟨o,ho,ro⟩:=paired_get' hd'.at_.st hz
    obtain ⟨pp,hpp⟩:=q3 m hm
    have:o=some pp:=Option.some.inj (ho.symm.trans hpp)
    subst this
    obtain ⟨cc,rfl,_⟩:=ro
    intro q;cases q
   ·walk_at "rd"
    refine ⟨by show 2≤sizeLine;decide,fun T' hT=>?_⟩
    have hme2:(upd H' T' (.tup [iN n,iN c.model])) A.a=some (.ins t.cYard dy (yardF A' { y with stock:=stockN y.stock l c.model i })):=by rw [upd_ne (ne_of_none hme hT)];exact hme
    have hsl2:(upd H' T' (.tup [iN n,iN c.model])) A'.sl=some (.lst A'.sv):=by rw [upd_ne (ne_of_none hd'.at_.sl hT)];exact hd'.at_.sl
    walk_at "rd"
    refine ⟨A'.sl,A'.sv,(j:Int),j,rfl,rfl,hsl2,ixN_nat (List.getElem?_eq_some_iff.mp hvj).1,?_⟩
    have hpsl:p≠A'.sl:=by rw [esl];exact fun e=>by rw [e,hd.at_.sl] at hp;cases hp
    have ep:stockN y.stock l c.model (i+1)=(stockN y.stock l c.model i).set j (some ⟨n,c.model⟩):=by
     unfold stockN
     rw [take_snoc hn,List.map_append,List.foldl_append]
     exact place1_eq _ hfr
    refine ⟨?_,{ A' with sv:=A'.sv.set j (.ref T') },some (iN n),some (iN j),by rw [eA],ea,ec,esl,?_,rfl⟩
    ·rw [upd_ne hpsl,upd_ne (ne_of_none hlp' hT)];exact hlp'
    ·rw [ep]
     exact hd'.putPart (p:=⟨n,c.model⟩) hT
  ·rintro σ H' ⟨hlp',A',v3,v4,eA,ea,ec,esl,hd',rfl⟩
   rw [List.length_map] at hd'
   have est:stockN y.stock l c.model l.length=Km415.store y.stock (y.room.zip (l.map fun u=>Km415.Part.mk u c.model)):=by
    unfold stockN
    rw [List.take_length]
    exact (store_fold _ _ g.sl (by rw [List.length_map];exact hroom)).symm
   rw [est] at hd'
   generalize hst:Km415.store y.stock (y.room.zip (l.map fun u=>Km415.Part.mk u c.model))=st at hd'
   have hcar:{ y with stock:=st }.cars[k]?=some c:=hc
   obtain ⟨b',dc,hb1,_,hcb⟩:=hd'.at_.car hcar
   have eb:b'=b:=Option.some.inj (hb1.symm.trans (by rw [ec];exact hb))
   subst eb
   walk_at "rd"
   have hsum:=kgs_split y hsub
   have hkg:Km415.sum (l.map y.kgOf)≤c.kg:=by
    have h1:=(g.ca k c hc).2.2.2.1
    have h2:Km415.sum (l.map y.kgOf)=kgs y bits:=by rw [←hl];rfl
    omega
   refine rd_set hcb T.cl_Car T.n_Car_has (by show 5 < 1000;decide) (show putF "has" (V.int (Builtin.bitAnd (c.has:Int) (Builtin.bitNot (bits:Int)))) (carF c)=carF { c with has:=c.has - (c.has &&& bits) } by rw [andNot_nat];rfl) ?_
   generalize hH2:upd H' b' (HO.ins t.cCar dc (carF { c with has:=c.has - (c.has &&& bits) }))=H2
   have hb2:A'.cs[k]?=some b':=by rw [ec];exact hb
   have hc2:H2 b'=some (.ins t.cCar dc (carF { c with has:=c.has - (c.has &&& bits) })):=by rw [←hH2];exact upd_same
   have hd2:Draft t H0 H2 A' { y with stock:=st,cars:=y.cars.set k { c with has:=c.has - (c.has &&& bits) } }:=hd'.setCar hb2 ⟨dc,hc2⟩ (by rw [←hH2];exact Keep.upd _ _ _)
   refine ⟨_,rfl,?_⟩
   refine rd_aug hc2 T.cl_Car T.n_Car_kg rfl ?_
   walk_at "rd"
   refine ⟨A',_,bits,by rw [ea];rfl,hd2.at_,g.tl,hbt,fun H3 s3=>?_⟩
   rw [hl]
   have hd3:=hd2.grow s3
   have hc3:=s3 _ _ hc2
   walk_at "rd"
   refine rd_put hc3 (by show 5 < 1000;decide) (show putF "kg" (V.int ((c.kg:Int) - ((Km415.sum (l.map y.kgOf):Nat):Int))) (carF { c with has:=c.has - (c.has &&& bits) })=carF { c with has:=c.has - (c.has &&& bits),kg:=c.kg - Km415.sum (l.map y.kgOf) } by
    rw [show (c.kg:Int) - ((Km415.sum (l.map y.kgOf):Nat):Int)=((c.kg - Km415.sum (l.map y.kgOf):Nat):Int) by omega];rfl) ?_
   generalize hH4:upd H3 b' (HO.ins t.cCar dc (carF { c with has:=c.has - (c.has &&& bits),kg:=c.kg - Km415.sum (l.map y.kgOf) }))=H4
   have hc4:H4 b'=some (.ins t.cCar dc (carF { c with has:=c.has - (c.has &&& bits),kg:=c.kg - Km415.sum (l.map y.kgOf) })):=by rw [←hH4];exact upd_same
   have hd4:Draft t H0 H4 A' { y with stock:=st,cars:=(y.cars.set k { c with has:=c.has - (c.has &&& bits) }).set k { c with has:=c.has - (c.has &&& bits),kg:=c.kg - Km415.sum (l.map y.kgOf) } }:=hd3.setCar hb2 ⟨dc,hc4⟩ (by rw [←hH4];exact Keep.upd _ _ _)
   rw [List.set_set] at hd4
   walk_at "rd"
   refine ⟨A',_,bits,by rw [ea];rfl,hd4.at_,g.tl,hbt,fun H5 s5=>?_⟩
   have hd5:=hd4.grow s5
   obtain ⟨dy,hme⟩:=hd5.at_.me
   rw [ea] at hme
   refine ⟨_,rfl,?_⟩
   refine rd_aug hme T.cl_Yard T.n_Yard_minutes rfl ?_
   walk_at "rd"
   refine rd_put hme (by show 12 < 1000;decide) (show putF "minutes" (V.int ((y.minutes:Int)+((Km415.sum ((Km415.kinds 8 bits).map y.minutesOf):Nat):Int))) (yardF A' { y with stock:=st,cars:=y.cars.set k { c with has:=c.has - (c.has &&& bits),kg:=c.kg - Km415.sum (l.map y.kgOf) } })
   =yardF A' { y with stock:=st,cars:=y.cars.set k { c with has:=c.has - (c.has &&& bits),kg:=c.kg - Km415.sum (l.map y.kgOf) },minutes:=y.minutes+Km415.sum (l.map y.minutesOf) } by
    rw [hl,←Int.natCast_add];rfl) ?_
   refine ⟨_,rfl,?_⟩
   have key:=kk _ A'.sv (?_:Draft t H0 (upd H5 A.a (HO.ins t.cYard dy (yardF A' { y with stock:=st,cars:=y.cars.set k { c with has:=c.has - (c.has &&& bits),kg:=c.kg - Km415.sum (l.map y.kgOf) },minutes:=y.minutes+Km415.sum (l.map y.minutesOf) }))) { A with sv:=A'.sv } (y.takes k c l))
   ·rw [hl]
    exact key
   ·have e:y.takes k c l={ y with stock:=st,cars:=y.cars.set k { c with has:=c.has - (c.has &&& bits),kg:=c.kg - Km415.sum (l.map y.kgOf) },minutes:=y.minutes+Km415.sum (l.map y.minutesOf) }:=by
     unfold Km415.Yard.takes Km415.Car.without
     rw [hst,←hl]
     have e2:Km415.bitsOf ((Km415.kinds Km415.TYPES c.has).filter fun t=>!((Km415.kinds 8 bits).contains t))=c.has - (c.has &&& bits):=bitsOf_without (n:=8) (g.has8 hc)
     rw [e2]
    rw [e]
    have hd6:=hd5.setMe (y':={ y with stock:=st,cars:=y.cars.set k { c with has:=c.has - (c.has &&& bits),kg:=c.kg - Km415.sum (l.map y.kgOf) },minutes:=y.minutes+Km415.sum (l.map y.minutesOf) }) (H':=upd H5 A.a (HO.ins t.cYard dy (yardF A' { y with stock:=st,cars:=y.cars.set k { c with has:=c.has - (c.has &&& bits),kg:=c.kg - Km415.sum (l.map y.kgOf) },minutes:=y.minutes+Km415.sum (l.map y.minutesOf) }))) rfl rfl rfl rfl ⟨dy,by rw [ea];exact upd_same⟩ (by rw [ea];exact Keep.upd _ _ _)
    rw [←eA]
    exact hd6
end
end Y58
namespace Y58
open PySem PySem.Spec PyProof.Rows L2
abbrev s_kind_is_there:Stmt:=top 24
theorem sc_kind_is_there:FnScope ["yard","t"] ["yard","t"] (defScope s_kind_is_there):=by walk_at "sc"
abbrev s_model_is_there:Stmt:=top 25
theorem sc_model_is_there:FnScope ["yard","m"] ["yard","m"] (defScope s_model_is_there):=by walk_at "sc"
abbrev s_car_is_there:Stmt:=top 26
theorem sc_car_is_there:FnScope ["yard","k"] ["yard","k"] (defScope s_car_is_there):=by walk_at "sc"
abbrev s_part_is_there:Stmt:=top 27
theorem sc_part_is_there:FnScope ["yard","i"] ["yard","i"] (defScope s_part_is_there):=by walk_at "sc"
abbrev s_names_missing_kind:Stmt:=top 28
theorem sc_names_missing_kind:FnScope ["yard","bits"] ["yard","bits"] (defScope s_names_missing_kind):=by walk_at "sc"
abbrev s_part_fits:Stmt:=top 48
theorem sc_part_fits:FnScope ["yard","t","m","n"] ["yard","t","m","n"] (defScope s_part_fits):=by walk_at "sc"
abbrev s_stock_place:Stmt:=top 49
theorem sc_stock_place:FnScope ["yard","t","model","place","part"] ["yard","t","model"] (defScope s_stock_place):=by walk_at "sc"
abbrev s_lacking:Stmt:=top 50
theorem sc_lacking:FnScope ["yard","model","wanted","t"] ["yard","model","wanted"] (defScope s_lacking):=by walk_at "sc"
abbrev s_can_give:Stmt:=top 51
theorem sc_can_give:FnScope ["yard","car","t","model"] ["yard","car","t","model"] (defScope s_can_give):=by walk_at "sc"
abbrev s_cars_that_give:Stmt:=top 52
theorem sc_cars_that_give:FnScope ["yard","t","model","k","car"] ["yard","t","model"] (defScope s_cars_that_give):=by walk_at "sc"
section
variable {P:Program} {w:World} {K:PySem.W.Frag} {mg:Str→Option Value} {base:Heap} {t:Adr} {f:Addr} {fd:FuncData}
theorem dec_lt (a b:Nat):decide ((a:Int) < (b:Int))=decide (a < b):=by rw [Bool.eq_iff_iff,decide_eq_true_iff,decide_eq_true_iff];omega
def sp_kind_is_there (t:Adr):Sp:=fun vs H Q _=>∃A y n,vs=[.ref A.a,iN n]∧YardAt t H A y∧Q (.bl (decide (n < y.types.length))) H
theorem ok_kind_is_there (F:Fun K "kind_is_there" "kind_is_there" s_kind_is_there f fd) (T:Txt K mg t):FnOk P w K mg base CX0 1 f fd ["yard","t"] (sp_kind_is_there t):=by
 refine F.ok sc_kind_is_there (fun vs H Q E h=>?_) (fun cdv _ outer s H vs Q E hr h=>?_)
 ·obtain ⟨A,y,n,rfl,_⟩:=h;rfl
 ·obtain ⟨A,y,n,rfl,hy,k⟩:=h
  have nd:=sc_kind_is_there.nd
  obtain ⟨dy,hme⟩:=hy.me
  have hkl:=hy.kl
  refine ⟨_,(pss_one (ps_ret (pe_cmpR op_lt (pv 1) (pe_callB (call_lenK K) (by rfl) T.b_len PySem.boot_len (pa_cons (pe_fldK K (pv 0) rfl) pa_nil)) (nomark _)))),?_⟩
  walk_at "rd"
  show Q (.bl (decide ((n:Int) < (((A.ks.map V.ref).length:Nat):Int)))) H
  rw [dec_lt,hy.kn];exact k
def sp_model_is_there (t:Adr):Sp:=fun vs H Q _=>∃A y n,vs=[.ref A.a,iN n]∧YardAt t H A y∧Q (.bl (decide (n < y.models.length))) H
theorem ok_model_is_there (F:Fun K "model_is_there" "model_is_there" s_model_is_there f fd) (T:Txt K mg t):FnOk P w K mg base CX0 1 f fd ["yard","m"] (sp_model_is_there t):=by
 refine F.ok sc_model_is_there (fun vs H Q E h=>?_) (fun cdv _ outer s H vs Q E hr h=>?_)
 ·obtain ⟨A,y,n,rfl,_⟩:=h;rfl
 ·obtain ⟨A,y,n,rfl,hy,k⟩:=h
  have nd:=sc_model_is_there.nd
  obtain ⟨dy,hme⟩:=hy.me
  have hml:=hy.ml
  refine ⟨_,(pss_one (ps_ret (pe_cmpR op_lt (pv 1) (pe_callB (call_lenK K) (by rfl) T.b_len PySem.boot_len (pa_cons (pe_fldK K (pv 0) rfl) pa_nil)) (nomark _)))),?_⟩
  walk_at "rd"
  show Q (.bl (decide ((n:Int) < (((A.ms.map V.ref).length:Nat):Int)))) H
  rw [dec_lt,hy.mn];exact k
def sp_car_is_there (t:Adr):Sp:=fun vs H Q _=>∃A y n,vs=[.ref A.a,iN n]∧YardAt t H A y∧Q (.bl (y.live n).isSome) H
theorem live_some {y:Km415.Yard} {n:Nat} {c:Km415.Car} (h:y.cars[n]?=some c):(y.live n).isSome=!c.gone:=by
 unfold Km415.Yard.live
 rw [h]
 cases e:c.gone <;> simp [e]
theorem live_none {y:Km415.Yard} {n:Nat} (h:y.cars.length≤n):y.live n=none:=by
 unfold Km415.Yard.live
 rw [List.getElem?_eq_none h]
theorem ok_car_is_there (F:Fun K "car_is_there" "car_is_there" s_car_is_there f fd) (T:Txt K mg t):FnOk P w K mg base CX0 1 f fd ["yard","k"] (sp_car_is_there t):=by
 refine F.ok sc_car_is_there (fun vs H Q E h=>?_) (fun cdv _ outer s H vs Q E hr h=>?_)
 ·obtain ⟨A,y,n,rfl,_⟩:=h;rfl
 ·obtain ⟨A,y,n,rfl,hy,k⟩:=h
  have nd:=sc_car_is_there.nd
  obtain ⟨dy,hme⟩:=hy.me
  have hcl:=hy.cl
  refine ⟨_,(pss_one (ps_ret (pe_and (pe_cmpR op_lt (pv 1) (pe_callB (call_lenK K) (by rfl) T.b_len PySem.boot_len (pa_cons (pe_fldK K (pv 0) rfl) pa_nil)) (nomark _)) (pe_one (pe_not (pe_fldK K (pe_ix (ix_listK K) (pe_fldK K (pv 0) rfl) (pv 1) (fun _ _=>rfl)) rfl)))))),?_⟩
  walk_at "rd"
  show if decide ((n:Int) < (((A.cs.map V.ref).length:Nat):Int))=true then _ else _
  rw [dec_lt,hy.cn]
  refine ite2 (fun h=>?_) fun h=>?_
  ·have hn:n < y.cars.length:=of_decide_eq_true h
   have hx:y.cars[n]?=some y.cars[n]:=List.getElem?_eq_getElem hn
   obtain ⟨b,db,_,hb,hk⟩:=hy.car hx
   rw [live_some hx] at k
   walk_at "rd"
   exact k
  ·have hn:y.cars.length≤n:=by
    apply Nat.le_of_not_lt
    intro q
    exact h (decide_eq_true q)
   rw [live_none hn] at k
   exact k
def sp_part_is_there (t:Adr):Sp:=fun vs H Q _=>∃A y n,vs=[.ref A.a,iN n]∧YardAt t H A y∧Good y∧Q (.bl (y.stock.getD n none).isSome) H
theorem ok_part_is_there (F:Fun K "part_is_there" "part_is_there" s_part_is_there f fd) (T:Txt K mg t):FnOk P w K mg base CX0 1 f fd ["yard","i"] (sp_part_is_there t):=by
 refine F.ok sc_part_is_there (fun vs H Q E h=>?_) (fun cdv _ outer s H vs Q E hr h=>?_)
 ·obtain ⟨A,y,n,rfl,_⟩:=h;rfl
 ·obtain ⟨A,y,n,rfl,hy,g,k⟩:=h
  have nd:=sc_part_is_there.nd
  obtain ⟨dy,hme⟩:=hy.me
  have hsl:=hy.sl
  refine ⟨_,(pss_one (ps_ret (pe_and (pe_cmpR op_lt (pv 1) (pe_gi rfl T.g_PLACES) (nomark _)) (pe_one (pe_cmp (pc_notN (pe_ix (ix_listK K) (pe_fldK K (pv 0) rfl) (pv 1) (fun _ _=>rfl)))))))),?_⟩
  walk_at "rd"
  show if decide ((n:Int) < ((30:Nat):Int))=true then _ else _
  rw [dec_lt]
  refine ite2 (fun h=>?_) fun h=>?_
  ·have hn:n < 30:=of_decide_eq_true h
   have hx:y.stock[n]?=some (y.stock.getD n none):=by
    rw [List.getD_eq_getElem?_getD,List.getElem?_eq_getElem (by rw [g.sl];exact hn)];rfl
   obtain ⟨v,hv,hp⟩:=hy.part hx
   walk_at "rd"
   show Q (.bl (!decide (v=V.non))) H
   rw [part_none hp]
   cases e:y.stock.getD n none <;> rw [e] at k <;> exact k
  ·have hn:30≤n:=by
    apply Nat.le_of_not_lt
    intro q
    exact h (decide_eq_true q)
   rw [List.getD_eq_getElem?_getD,List.getElem?_eq_none (by rw [g.sl];exact hn)] at k
   exact k
def sp_names_missing_kind (t:Adr):Sp:=fun vs H Q _=>∃A y b,vs=[.ref A.a,iN b]∧YardAt t H A y∧Q (.bl (decide (2^y.types.length≤b))) H
theorem ok_names_missing_kind (F:Fun K "names_missing_kind" "names_missing_kind" s_names_missing_kind f fd) (T:Txt K mg t):FnOk P w K mg base CX0 1 f fd ["yard","bits"] (sp_names_missing_kind t):=by
 refine F.ok sc_names_missing_kind (fun vs H Q E h=>?_) (fun cdv _ outer s H vs Q E hr h=>?_)
 ·obtain ⟨A,y,b,rfl,_⟩:=h;rfl
 ·obtain ⟨A,y,b,rfl,hy,k⟩:=h
  have nd:=sc_names_missing_kind.nd
  obtain ⟨dy,hme⟩:=hy.me
  have hkl:=hy.kl
  refine ⟨_,(pss_one (ps_ret (pe_cmpR op_ne (pe_op op_shr (pv 1) (pe_callB (call_lenK K) (by rfl) T.b_len PySem.boot_len (pa_cons (pe_fldK K (pv 0) rfl) pa_nil))) pe_int (nomark _)))),?_⟩
  walk_at "rd"
  show Q (.bl (!decide (V.int ((b:Int) / 2^((((A.ks.map V.ref).length:Nat):Int)).toNat)=V.int ((0:Nat):Int)))) H
  rw [shr_nat,hy.kn,dec_nat]
  have e:(!decide (b / 2^y.types.length=0))=decide (2^y.types.length≤b):=by
   rw [Bool.eq_iff_iff,Bool.not_eq_true',decide_eq_false_iff_not,decide_eq_true_iff,Nat.div_eq_zero_iff]
   have:=Nat.two_pow_pos y.types.length
   omega
  rw [e];exact k
def sp_part_fits (t:Adr):Sp:=fun vs H Q _=>∃A y u m n,vs=[.ref A.a,iN u,iN m,iN n]∧YardAt t H A y∧Good y∧u < 8∧m < y.models.length∧n < y.models.length∧Q (.bl (y.fits u m n)) H
theorem group_at {y:Km415.Yard} (g:Good y) {u m:Nat} (hu:u < 8) (hm:m < y.models.length):((y.models[m]).groups.map iN)[u]?=some (iN (y.group u m)):=by
 have hx:y.models[m]?=some y.models[m]:=List.getElem?_eq_getElem hm
 have hl:=(g.mo m _ hx).2.2.2.1
 have e:y.group u m=(y.models[m]).groups.getD u 0:=by unfold Km415.Yard.group;rw [hx]
 rw [e,List.getElem?_map,List.getD_eq_getElem?_getD,List.getElem?_eq_getElem (by rw [hl];exact hu)]
 rfl
theorem ok_part_fits (F:Fun K "part_fits" "part_fits" s_part_fits f fd) (T:Txt K mg t):FnOk P w K mg base CX0 1 f fd ["yard","t","m","n"] (sp_part_fits t):=by
 refine F.ok sc_part_fits (fun vs H Q E h=>?_) (fun cdv _ outer s H vs Q E hr h=>?_)
 ·obtain ⟨A,y,u,m,n,rfl,_⟩:=h;rfl
 ·obtain ⟨A,y,u,m,n,rfl,hy,g,hu,hm,hn,k⟩:=h
  have nd:=sc_part_fits.nd
  obtain ⟨dy,hme⟩:=hy.me
  have hml:=hy.ml
  obtain ⟨b1,d1,g1,hb1,hk1,hg1⟩:=hy.model (List.getElem?_eq_getElem hm)
  obtain ⟨b2,d2,g2,hb2,hk2,hg2⟩:=hy.model (List.getElem?_eq_getElem hn)
  have e1:=group_at g hu hm
  have e2:=group_at g hu hn
  refine ⟨_,(pss_one (ps_ret (pe_cmpR op_eq (pe_ix (ix_tupK K) (pe_fldK K (pe_ix (ix_listK K) (pe_fldK K (pv 0) rfl) (pv 2) (fun _ _=>rfl)) rfl) (pv 1) (fun _ _=>rfl)) (pe_ix (ix_tupK K) (pe_fldK K (pe_ix (ix_listK K) (pe_fldK K (pv 0) rfl) (pv 3) (fun _ _=>rfl)) rfl) (pv 1) (fun _ _=>rfl)) (nomark _)))),?_⟩
  walk_at "rd"
  show Q (.bl (decide (V.int ((y.group u m:Nat):Int)=V.int ((y.group u n:Nat):Int)))) H
  rw [dec_nat]
  have e:y.fits u m n=decide (y.group u m=y.group u n):=by unfold Km415.Yard.fits;rw [Bool.eq_iff_iff,beq_iff_eq,decide_eq_true_iff]
  rw [←e];exact k
end
end Y58
namespace Y58
open PySem PySem.Spec PyProof.Rows L2
section
variable {P:Program} {w:World} {K:PySem.W.Frag} {mg:Str→Option Value} {base:Heap} {t:Adr} {f:Addr} {fd:FuncData}
def hit (y:Km415.Yard) (u m i:Nat):Bool:=match y.stock.getD i none with
 | some p=>p.kind==u&&y.fits u p.model m
 | none=>false
theorem find_eq (y:Km415.Yard) (u m:Nat):y.find u m=(List.range 30).find? (hit y u m):=rfl
theorem find_at {p:Nat→Bool} {i:Nat} (hp:p i=true):∀{n:Nat},i < n→(∀j,j < i→p j=false)→(List.range n).find? p=some i
 | 0,h,_=>by omega
 | n+1,h,hb=>by
  rw [List.range_succ,List.find?_append]
  by_cases e:i < n
  ·rw [find_at hp e hb];rfl
  ·have e':i=n:=by omega
   subst e'
   have:(List.range i).find? p=none:=by
    apply List.find?_eq_none.mpr
    intro j hj
    rw [hb j (List.mem_range.mp hj)]
    decide
   rw [this]
   simp [hp]
theorem find_no {p:Nat→Bool} {n:Nat} (hb:∀j,j < n→p j=false):(List.range n).find? p=none:=by
 apply List.find?_eq_none.mpr
 intro j hj
 rw [hb j (List.mem_range.mp hj)]
 decide
def placeV:Option Nat→V
 | none=>.non
 | some i=>iN i
def sp_stock_place (t:Adr):Sp:=fun vs H Q _=>∃A y u m,vs=[.ref A.a,iN u,iN m]∧YardAt t H A y∧Good y∧u < 8∧m < y.models.length∧∀H',Same H H'→Q (placeV (y.find u m)) H'
theorem ok_stock_place (F:Fun K "stock_place" "stock_place" s_stock_place f fd) (T:Txt K mg t) (F_part_fits:Fd P w K mg base "part_fits" 1 ["yard","t","m","n"] (sp_part_fits t)):FnOk P w K mg base CX0 2 f fd ["yard","t","model"] (sp_stock_place t):=by
 refine F.ok sc_stock_place (fun vs H Q E h=>?_) (fun cdv _ outer s H vs Q E hr h=>?_)
 ·obtain ⟨A,y,u,m,rfl,_⟩:=h;rfl
 ·obtain ⟨A,y,u,m,rfl,hy,g,hu,hm,k⟩:=h
  have nd:=sc_stock_place.nd
  obtain ⟨dy,hme⟩:=hy.me
  have hsl:=hy.sl
  have hsn:=hy.sn
  have hs30:=g.sl
  refine ⟨_,(pss_cons (ps_for PassesOwn.never rfl (pi_enumK K rfl T.b_enumerate (pa_cons (pe_fldK K (pv 0) rfl) pa_nil)) (pg_tupK K (n:=2) rfl (pgs_cons (pg_name (i:=3) nd rfl (by walk_at "lo")) (pgs_cons (pg_name (i:=4) nd rfl (by walk_at "lo")) pgs_nil))) (pss_one (ps_if (PW.pt (pw_and (pt_cmp (pc_notN (pv 4))) (pw_and (pt_cmpR op_eq (pe_ix (ix_tupK K) (pv 4) pe_int (fun _ _=>rfl)) (pv 1) (nomark _)) (pw_and1 (pt_val (pe_fn F_part_fits (hr.mono (by decide)) rfl (pa_cons (pv 0) (pa_cons (pv 1) (pa_cons (pe_ix (ix_tupK K) (pv 4) pe_int (fun _ _=>rfl)) (pa_cons (pv 2) pa_nil)))))))))) (pss_one (ps_ret (pv 3))) pss_nil))) (pss_one (ps_ret pe_non))),?_⟩
  walk_at "rd"
  refine ⟨_,_,rfl,SqL.of hsl,?_⟩
  refine for_it (n:=30) (fun i σ H'=>Same H H'∧(∀j,j < i→hit y u m j=false)∧∃v3 v4,σ=[some (.ref A.a),some (iN u),some (iN m),v3,v4]) ⟨Same.refl H,fun j hj=>absurd hj (Nat.not_lt_zero _),none,none,rfl⟩ ?_ ?_ ?_ ?_
  ·rintro i σ H' hi ⟨s1,_⟩
   exact ⟨_,_,SqL.of (s1 _ _ hsl),List.getElem?_eq_getElem (by omega)⟩
  ·rintro σ H' ⟨s1,_⟩
   exact ⟨_,SqL.of (s1 _ _ hsl),by omega⟩
  ·rintro i x σ H' H2 hi ⟨s1,hno,v3,v4,rfl⟩ ⟨T',z,rfl,hT,rfl,hz⟩
   have ez:=hz _ (SqL.of (s1 _ _ hsl))
   have hx:y.stock[i]?=some (y.stock.getD i none):=by
    rw [List.getD_eq_getElem?_getD,List.getElem?_eq_getElem (by omega)];rfl
   have s2:Same H (upd H' T' (.tup [.int (i:Nat),z])):=same_upd s1 (s1.free hT)
   obtain ⟨v,hv,hp⟩:=(hy.same s2).part hx
   have evz:v=z:=Option.some.inj (hv.symm.trans ez)
   subst evz
   refine ⟨T',_,rfl,SqT.of upd_same,rfl,_,_,rfl,_,_,rfl,rfl,?_⟩
   refine ⟨_,rfl,?_⟩
   refine ⟨_,rfl,?_⟩
   have next:hit y u m i=false→∀j,j < i+1→hit y u m j=false:=fun h j hj=>by
    by_cases e:j < i
    ·exact hno j e
    ·have:j=i:=by omega
     subst this;exact h
   cases ho:y.stock.getD i none with
   | none =>
    rw [ho] at hp
    have hp':v=V.non:=hp
    subst hp'
    refine ⟨s2,next (by unfold hit;rw [ho]),some (iN i),some V.non,rfl⟩
   | some p =>
    rw [ho] at hp hx
    obtain ⟨b,rfl,hb⟩:=hp
    obtain ⟨gk,gm⟩:=g.st i p hx
    have e0:([iN p.kind,iN p.model]:List V)[0]?=some (iN p.kind):=rfl
    have e1:([iN p.kind,iN p.model]:List V)[1]?=some (iN p.model):=rfl
    have hhit:hit y u m i=(p.kind==u&&y.fits u p.model m):=by unfold hit;rw [ho]
    refine ⟨_,rfl,?_⟩
    refine ⟨b,_,(0:Nat),_,rfl,rfl,SqT.of hb,atI_nat e0,?_⟩
    walk_at "rd"
    show if decide (V.int ((p.kind:Nat):Int)=V.int ((u:Nat):Int))=true then _ else _
    rw [dec_nat]
    refine ite2 (fun h1=>?_) fun h1=>?_
    ·have h1':p.kind=u:=of_decide_eq_true h1
     walk_at "rd"
     refine ⟨b,_,(1:Nat),_,rfl,rfl,SqT.of hb,atI_nat e1,?_⟩
     walk_at "rd"
     refine ⟨A,y,u,p.model,m,rfl,hy.same s2,g,hu,gm,hm,_,rfl,ite2 (fun h2=>?_) fun h2=>?_⟩
     ·walk_at "rd"
      have e:y.find u m=some i:=by
       rw [find_eq]
       exact find_at (by rw [hhit,h1',h2];simp) hi hno
      have:=k _ s2
      rw [e] at this
      exact this
     ·refine ⟨s2,next (by rw [hhit,Bool.not_eq_true _ |>.mp h2];simp),some (iN i),some (.ref b),rfl⟩
    ·have h1':¬ p.kind=u:=fun e=>h1 (decide_eq_true e)
     refine ⟨s2,next (by rw [hhit];simp [h1']),some (iN i),some (.ref b),rfl⟩
  ·rintro σ H' ⟨s1,hno,v3,v4,rfl⟩
   have e:y.find u m=none:=by rw [find_eq];exact find_no hno
   have:=k _ s1
   rw [e] at this
   exact this
end
end Y58
namespace Y58
open PySem PySem.Spec PyProof.Rows L2
abbrev s_longer_ways:Stmt:=top 53
theorem sc_longer_ways:FnScope ["ways","cars","longer","way","k"] ["ways","cars"] (defScope s_longer_ways):=by walk_at "sc"
abbrev s_all_ways:Stmt:=top 54
theorem sc_all_ways:FnScope ["yard","model","lacks","ways","t"] ["yard","model","lacks"] (defScope s_all_ways):=by walk_at "sc"
section
variable {P:Program} {w:World} {K:PySem.W.Frag} {mg:Str→Option Value} {base:Heap} {t:Adr} {f:Addr} {fd:FuncData}
def sp_lacking (t:Adr):Sp:=fun vs H Q _=>∃A y m b,vs=[.ref A.a,iN m,iN b]∧YardAt t H A y∧Good y∧m < y.models.length∧b < 2^y.types.length∧∀H' p,Same H H'→H p=none→H' p=some (.lst ((y.lacking m b).map iN))→Q (.ref p) H'
theorem ok_lacking (F:Fun K "lacking" "lacking" s_lacking f fd) (T:Txt K mg t) (F_kinds_in:Fd P w K mg base "kinds_in" 1 ["bits"] sp_kinds_in) (F_stock_place:Fd P w K mg base "stock_place" 2 ["yard","t","model"] (sp_stock_place t)) :
  FnOk P w K mg base CX0 3 f fd ["yard","model","wanted"] (sp_lacking t):=by
 refine F.ok sc_lacking (fun vs H Q E h=>?_) (fun cdv _ outer s H vs Q E hr h=>?_)
 ·obtain ⟨A,y,m,b,rfl,_⟩:=h;rfl
 ·obtain ⟨A,y,m,b,rfl,hy,g,hm,hb,k⟩:=h
  have nd:=sc_lacking.nd
  have hb8:b < 2^8:=Nat.lt_of_lt_of_le hb (Nat.pow_le_pow_right (by decide) g.tl)
  refine ⟨_,(pss_one (ps_ret (pe_lc rfl nd (pi_listK K (pe_fn F_kinds_in (hr.mono (by decide)) rfl (pa_cons (pv 2) pa_nil))) (blkOk_by (own:=[("t",3)]) rfl) (fun _ _ _ _ _=>(pg_name (i:=3) nd rfl (by walk_at "lo"))) (fun _ _ _ _ _=>(pts_one (pt_cmp (pc_isN (pe_fn F_stock_place (hr.mono (by decide)) rfl (pa_cons (pv 0) (pa_cons (pv 3) (pa_cons (pv 1) pa_nil)))))))) (fun _ _ _ _ _=>(pv 3))))),?_⟩
  walk_at "rd"
  refine ⟨hb8,fun H1 p s1 hp hl=>?_⟩
  refine ⟨p,rfl,⟨_,SqL.of hl⟩,fun D hD=>?_⟩
  refine lc_list (K:=K) (a:=p) (xs:=(Km415.kinds 8 b).map iN) (fun i H'=>Same H1 H'∧H' D=some (.lst ((((Km415.kinds 8 b).take i).filter fun u=>(y.find u m).isNone).map iN))) ⟨same_new hD,upd_same⟩ (fun i H' _ ⟨s2,_⟩=>SqL.of (s2 _ _ hl)) ?_ ?_
  ·rintro i x H' hx ⟨s2,hD'⟩
   obtain ⟨n,hn,rfl⟩:=map_get hx
   have hmem:=mem_kinds.mp (List.mem_of_getElem? hn)
   refine ⟨rfl,?_⟩
   walk_at "rd"
   refine ⟨A,y,n,m,rfl,hy.same (s1.trans s2),g,hmem.1,hm,fun H3 s3=>?_⟩
   refine ⟨_,rfl,?_⟩
   have hD3:=s3 _ _ hD'
   cases e:y.find n m with
   | none =>
    show if decide (V.non=V.non)=true then _ else _
    refine iteT ?_
    walk_at "rd"
    refine ⟨_,hD3,small ?_,same_upd (s2.trans s3) hD,?_⟩
    ·rw [List.length_map]
     have h1:=List.length_filter_le (fun u=>(y.find u m).isNone) ((Km415.kinds 8 b).take i)
     have h2:=kinds_length_le 8 b
     rw [List.length_take] at h1
     omega
    ·rw [upd_same,take_snoc hn,List.filter_append,List.map_append]
     simp only [List.filter_cons,e,Option.isNone_none,if_true,List.filter_nil,List.map_cons,List.map_nil]
   | some j =>
    show if decide (iN j=V.non)=true then _ else _
    refine iteF ⟨s2.trans s3,?_⟩
    rw [hD3,take_snoc hn,List.filter_append]
    simp only [List.filter_cons,e,Option.isNone_some,Bool.false_eq_true,if_false,List.filter_nil,List.append_nil]
  ·rintro H' ⟨s2,hD'⟩
   rw [List.length_map,List.take_length] at hD'
   exact k H' D (s1.trans s2) (s1.free hD) hD'
def sp_can_give (t:Adr):Sp:=fun vs H Q _=>∃A y a dx c u m,vs=[.ref A.a,.ref a,iN u,iN m]∧YardAt t H A y∧Good y∧H a=some (.ins t.cCar dx (carF c))∧c.has < 2^y.types.length∧c.model < y.models.length∧(c.gone=true→c.has=0)∧m < y.models.length ∧
 Q (.bl (!c.gone&&(c.litres==0&&(c.has.testBit u&&y.fits u c.model m)))) H
theorem ok_can_give (F:Fun K "can_give" "can_give" s_can_give f fd) (T:Txt K mg t) (F_is_dry:Fd P w K mg base "is_dry" 1 ["car"] (sp_is_dry t)) (F_has_part:Fd P w K mg base "has_part" 1 ["car","t"] (sp_has_part t)) (F_part_fits:Fd P w K mg base "part_fits" 1 ["yard","t","m","n"] (sp_part_fits t)) :
  FnOk P w K mg base CX0 2 f fd ["yard","car","t","model"] (sp_can_give t):=by
 refine F.ok sc_can_give (fun vs H Q E h=>?_) (fun cdv _ outer s H vs Q E hr h=>?_)
 ·obtain ⟨A,y,a,dx,c,u,m,rfl,_⟩:=h;rfl
 ·obtain ⟨A,y,a,dx,c,u,m,rfl,hy,g,ha,hh,hcm,hgo,hm,k⟩:=h
  have nd:=sc_can_give.nd
  have key:(!c.gone&&(c.litres==0&&(c.has.testBit u&&y.fits u c.model m)))=(decide (c.litres=0)&&(c.has.testBit u&&y.fits u c.model m)):=by
   have e1:(c.litres==0)=decide (c.litres=0):=by rw [Bool.eq_iff_iff,beq_iff_eq,decide_eq_true_iff]
   rw [e1]
   cases e:c.gone with
   | false=>simp
   | true=>rw [hgo e];simp
  rw [key] at k
  refine ⟨_,(pss_one (ps_ret (pe_and (pe_fn F_is_dry (hr.mono (by decide)) rfl (pa_cons (pv 1) pa_nil)) (pe_and (pe_fn F_has_part (hr.mono (by decide)) rfl (pa_cons (pv 1) (pa_cons (pv 2) pa_nil))) (pe_one (pe_fn F_part_fits (hr.mono (by decide)) rfl (pa_cons (pv 0) (pa_cons (pv 2) (pa_cons (pe_fldK K (pv 1) rfl) (pa_cons (pv 3) pa_nil)))))))))),?_⟩
  walk_at "rd"
  refine ⟨a,dx,c,rfl,ha,_,rfl,ite2 (fun h1=>?_) fun h1=>?_⟩
  ·walk_at "rd"
   refine ⟨a,dx,c,u,rfl,ha,_,rfl,ite2 (fun h2=>?_) fun h2=>?_⟩
   ·have hu:=lt_of_testBit hh h2
    have h8:=g.tl
    walk_at "rd"
    refine ⟨A,y,u,c.model,m,rfl,hy,g,by omega,hcm,hm,?_⟩
    rw [h1,h2] at k
    exact k
   ·rw [h1,Bool.not_eq_true _ |>.mp h2] at k
    exact k
  ·rw [Bool.not_eq_true _ |>.mp h1] at k
   exact k
def giveB (y:Km415.Yard) (u m k:Nat):Bool:=match y.cars[k]? with
 | some c=>!c.gone&&(c.litres==0&&(c.has.testBit u&&y.fits u c.model m))
 | none=>false
theorem from_eq (y:Km415.Yard) (u m:Nat):y.from_ u m=(List.range y.cars.length).filter (giveB y u m):=rfl
def sp_cars_that_give (t:Adr):Sp:=fun vs H Q _=>∃A y u m,vs=[.ref A.a,iN u,iN m]∧YardAt t H A y∧Good y∧m < y.models.length∧∀H' p,Same H H'→H p=none→H' p=some (.lst ((y.from_ u m).map iN))→Q (.ref p) H'
theorem ok_cars_that_give (F:Fun K "cars_that_give" "cars_that_give" s_cars_that_give f fd) (T:Txt K mg t) (F_can_give:Fd P w K mg base "can_give" 2 ["yard","car","t","model"] (sp_can_give t)) :
  FnOk P w K mg base CX0 3 f fd ["yard","t","model"] (sp_cars_that_give t):=by
 refine F.ok sc_cars_that_give (fun vs H Q E h=>?_) (fun cdv _ outer s H vs Q E hr h=>?_)
 ·obtain ⟨A,y,u,m,rfl,_⟩:=h;rfl
 ·obtain ⟨A,y,u,m,rfl,hy,g,hm,k⟩:=h
  have nd:=sc_cars_that_give.nd
  obtain ⟨dy,hme⟩:=hy.me
  have hcl:=hy.cl
  have hcn:=hy.cn
  have hc8:=g.cl
  refine ⟨_,(pss_one (ps_ret (pe_lc rfl nd (pi_enumK K rfl T.b_enumerate (pa_cons (pe_fldK K (pv 0) rfl) pa_nil)) (blkOk_by (own:=[("k",3),("car",4)]) rfl) (fun _ _ _ _ _=>(pg_tupK K (n:=2) rfl (pgs_cons (pg_name (i:=3) nd rfl (by walk_at "lo")) (pgs_cons (pg_name (i:=4) nd rfl (by walk_at "lo")) pgs_nil)))) (fun _ _ _ _ _=>(pts_one (pt_val (pe_fn F_can_give (hr.mono (by decide)) rfl (pa_cons (pv 0) (pa_cons (pv 4) (pa_cons (pv 1) (pa_cons (pv 2) pa_nil)))))))) (fun _ _ _ _ _=>(pv 3))))),?_⟩
  walk_at "rd"
  refine ⟨_,_,rfl,SqL.of hcl,fun D hD=>?_⟩
  refine lc_it (n:=y.cars.length) (fun i H'=>Same H H'∧H' D=some (.lst (((List.range i).filter (giveB y u m)).map iN))) ⟨same_new hD,upd_same⟩ ?_ ?_ ?_ ?_
  ·rintro i H' hi ⟨s1,_⟩
   exact ⟨_,_,SqL.of (s1 _ _ hcl),List.getElem?_eq_getElem (by omega)⟩
  ·rintro H' ⟨s1,_⟩
   exact ⟨_,SqL.of (s1 _ _ hcl),by omega⟩
  ·rintro i x H' H2 hi ⟨s1,hD'⟩ ⟨T',z,rfl,hT,rfl,hz⟩
   have ez:=hz _ (SqL.of (s1 _ _ hcl))
   have hx:y.cars[i]?=some y.cars[i]:=List.getElem?_eq_getElem hi
   have s2:Same H (upd H' T' (.tup [.int (i:Nat),z])):=same_upd s1 (s1.free hT)
   obtain ⟨b,db,_,hb,hcb⟩:=(hy.same s2).car hx
   have evz:V.ref b=z:=Option.some.inj (hb.symm.trans ez)
   subst evz
   obtain ⟨c1,c2,_,_,_,c6⟩:=g.ca i _ hx
   have hD2:(upd H' T' (.tup [.int (i:Nat),.ref b])) D=some (.lst (((List.range i).filter (giveB y u m)).map iN)):=by rw [upd_ne (ne_of_none hD' hT)];exact hD'
   have eg:giveB y u m i=(!(y.cars[i]).gone&&((y.cars[i]).litres==0&&((y.cars[i]).has.testBit u&&y.fits u (y.cars[i]).model m))):=by unfold giveB;rw [hx]
   refine ⟨T',_,rfl,SqT.of upd_same,rfl,_,_,rfl,_,_,rfl,rfl,?_⟩
   refine ⟨rfl,?_⟩
   walk_at "rd"
   refine ⟨A,y,b,db,_,u,m,rfl,hy.same s2,g,hcb,c2,c1,fun q=>(c6 q).1,hm,_,rfl,?_⟩
   rw [←eg]
   refine ite2 (fun h=>?_) fun h=>?_
   ·walk_at "rd"
    refine ⟨_,hD2,small ?_,same_upd s2 hD,?_⟩
    ·rw [List.length_map]
     have:=List.length_filter_le (giveB y u m) (List.range i)
     rw [List.length_range] at this
     omega
    ·rw [upd_same,List.range_succ,List.filter_append,List.map_append]
     simp only [List.filter_cons,h,if_true,List.filter_nil,List.map_cons,List.map_nil]
   ·refine ⟨s2,?_⟩
    rw [hD2,List.range_succ,List.filter_append]
    simp only [List.filter_cons,h,Bool.false_eq_true,if_false,List.filter_nil,List.append_nil]
  ·rintro H' ⟨s1,hD'⟩
   exact k H' D s1 hD hD'
end
end Y58
namespace Y58
open PySem PySem.Spec PyProof.Rows L2
section
variable {P:Program} {w:World} {K:PySem.W.Frag} {mg:Str→Option Value} {base:Heap} {t:Adr} {f:Addr} {fd:FuncData}
def WayAt (H:Hp) (b:Addr) (l:List Nat):Prop:=H b=some (.lst (l.map iN))
theorem prod_snoc (g:Nat→List Nat) (L:List Nat) (u:Nat):prod g (L++[u])=longer (prod g L) (g u):=by
 rw [←allWays_eq,List.foldl_append,allWays_eq];rfl
theorem flat_len {α β:Type} (g:α→List β) (n:Nat):∀(l:List α),(∀a∈l,(g a).length=n)→(l.flatMap g).length=l.length * n
 | [],_=>by simp
 | a::l,h=>by
  rw [List.flatMap_cons,List.length_append,h a (by simp),flat_len g n l fun b hb=>h b (by simp [hb]),List.length_cons,Nat.add_mul];omega
theorem longer_len (ws:List (List Nat)) (cs:List Nat):(longer ws cs).length=ws.length * cs.length:=flat_len _ _ _ fun a _=>by rw [List.length_map]
theorem prod_len (g:Nat→List Nat) (hg:∀u,(g u).length≤8):∀L:List Nat,(prod g L).length≤8^L.length
 | []=>by simp [prod]
 | u::L=>by
  have e:(prod g (u::L)).length=(g u).length * (prod g L).length:=flat_len _ _ _ fun a _=>by rw [List.length_map]
  rw [e,List.length_cons,Nat.pow_succ,Nat.mul_comm]
  exact Nat.mul_le_mul (prod_len g hg L) (hg u)
theorem ways_keep {H H':Hp}:∀{as:List Addr} {ws:List (List Nat)},Paired (WayAt H) as ws→(∀x∈as,∀o,H x=some o→H' x=some o)→Paired (WayAt H') as ws
 | _,_,.nil,_=>.nil
 | _,_,.cons r q,h=>.cons (h _ List.mem_cons_self _ r) (ways_keep q fun x hx=>h x (List.mem_cons_of_mem _ hx))
theorem ways_same {H H':Hp} (s:Same H H') {as:List Addr} {ws:List (List Nat)} (h:Paired (WayAt H) as ws):Paired (WayAt H') as ws:=ways_keep h fun x _ o e=>s x o e
def sp_longer_ways:Sp:=fun vs H Q _=>∃a as ws b cs,vs=[.ref a,.ref b]∧H a=some (.lst (as.map V.ref))∧Paired (WayAt H) as ws∧H b=some (.lst (cs.map iN))∧ws.length * cs.length≤1000∧(∀l∈ws,l.length≤8) ∧
 ∀H' p as',Same H H'→H p=none→H' p=some (.lst (as'.map V.ref))→Paired (WayAt H') as' (longer ws cs)→Q (.ref p) H'
theorem ok_longer_ways (F:Fun K "longer_ways" "longer_ways" s_longer_ways f fd) (T:Txt K mg t):FnOk P w K mg base CX0 1 f fd ["ways","cars"] sp_longer_ways:=by
 refine F.ok sc_longer_ways (fun vs H Q E h=>?_) (fun cdv _ outer s H vs Q E hr h=>?_)
 ·obtain ⟨a,as,ws,b,cs,rfl,_⟩:=h;rfl
 ·obtain ⟨a,as,ws,b,cs,rfl,ha,hw,hb,hsz,hl8,k⟩:=h
  have nd:=sc_longer_ways.nd
  have hal:=Paired.length hw
  refine ⟨_,(pss_cons (ps_set (i:=2) nd rfl (by walk_at "lo") (pe_lst pa_nil)) (pss_cons (ps_for PassesOwn.never rfl (pi_listK K (pv 0)) (pg_name (i:=3) nd rfl (by walk_at "lo")) (pss_one (ps_for PassesOwn.never rfl (pi_listK K (pv 1)) (pg_name (i:=4) nd rfl (by walk_at "lo")) (pss_one (ps_expr (pe_bmK K PySem.F.plainAttrs_list PySem.F.slot_list_append PySem.F.type_list_append mt_append (pv 2) (pa_cons (pe_op op_cat (pv 3) (pe_lst (pa_cons (pv 4) pa_nil))) pa_nil))))))) (pss_one (ps_ret (pv 2))))),?_⟩
  refine ⟨Nat.zero_le _,fun D hD=>?_⟩
  have s0:Same H (upd H D (.lst [])):=same_new hD
  refine ⟨_,rfl,a,rfl,⟨_,SqL.of (s0 _ _ ha)⟩,?_⟩
  refine for_list (K:=K) (a:=a) (xs:=as.map V.ref) (fun i σ H'=>Same H H'∧(∃as',H' D=some (.lst (as'.map V.ref))∧Paired (WayAt H') as' (longer (ws.take i) cs)∧∀x∈as',x≠D)∧∃v3 v4,σ=[some (.ref a),some (.ref b),some (.ref D),v3,v4])
   ⟨s0,⟨[],upd_same,.nil,fun _ h=>by cases h⟩,none,none,rfl⟩ (fun i σ H' _ q=>SqL.of (q.1 _ _ ha)) ?_ ?_
  ·rintro i x σ H' hx ⟨s1,⟨as1,hD1,hp1,hn1⟩,v3,v4,rfl⟩
   obtain ⟨c,hc,rfl⟩:=map_get hx
   obtain ⟨l,hl,hcl⟩:=paired_get' hw hc
   have hcl:H c=some (.lst (l.map iN)):=hcl
   have hl8':=hl8 l (List.mem_of_getElem? hl)
   have hil:i < ws.length:=(List.getElem?_eq_some_iff.mp hl).1
   refine ⟨_,rfl,b,rfl,⟨_,SqL.of (s1 _ _ hb)⟩,?_⟩
   refine for_list (K:=K) (a:=b) (xs:=cs.map iN) (fun j σ H'=>Same H H'∧(∃as',H' D=some (.lst (as'.map V.ref))∧Paired (WayAt H') as' (longer (ws.take i) cs++(cs.take j).map fun k=>l++[k])∧∀x∈as',x≠D)∧∃v4,σ=[some (.ref a),some (.ref b),some (.ref D),some (.ref c),v4])
    ⟨s1,⟨as1,hD1,by rw [List.take_zero,List.map_nil,List.append_nil];exact hp1,hn1⟩,v4,rfl⟩ (fun j σ H' _ q=>SqL.of (q.1 _ _ hb)) ?_ ?_
   ·rintro j x σ H' hx ⟨s2,⟨as2,hD2,hp2,hn2⟩,v4,rfl⟩
    obtain ⟨kk,hk,rfl⟩:=map_get hx
    have hjl:j < cs.length:=(List.getElem?_eq_some_iff.mp hk).1
    walk_at "rd"
    refine ⟨.inl ⟨rfl,_,SqL.of hD2⟩,?_⟩
    walk_at "rd"
    refine ⟨by show 1≤sizeLine;decide,fun B hB=>?_⟩
    have hcl2:=s2 _ _ hcl
    refine ⟨c,B,l.map iN,[iN kk],rfl,rfl,by rw [upd_ne (ne_of_none hcl2 hB)];exact hcl2,upd_same,?_,fun B2 hB2=>?_⟩
    ·rw [List.length_map]
     exact Nat.le_of_lt (small (by show l.length+1≤100000;omega))
    have hBD:D≠B:=ne_of_none hD2 hB
    have hD2':(upd H' B (.lst [iN kk])) D=some (.lst (as2.map V.ref)):=by rw [upd_ne hBD];exact hD2
    have hB2D:D≠B2:=ne_of_none hD2' hB2
    have s3:Same H' (upd (upd H' B (.lst [iN kk])) B2 (.lst (l.map iN++[iN kk]))):=(same_new hB).trans (same_new hB2)
    refine ⟨D,_,_,rfl,rfl,s3 _ _ hD2,?_,?_⟩
    ·refine small ?_
     rw [List.length_map]
     have h1:=Paired.length hp2
     rw [List.length_append,longer_len,List.length_map,List.length_take,List.length_take] at h1
     have h2:(min i ws.length) * cs.length+min j cs.length≤2000:=by
      have:min i ws.length * cs.length≤ws.length * cs.length:=Nat.mul_le_mul (Nat.min_le_right _ _) (Nat.le_refl _)
      have hcs:cs.length≤ws.length * cs.length:=Nat.le_mul_of_pos_left _ (by omega)
      omega
     omega
    ·refine ⟨same_upd (s2.trans s3) hD,⟨as2++[B2],?_,?_,?_⟩,some (iN kk),rfl⟩
     ·rw [upd_same,List.map_append];rfl
     ·rw [take_snoc hk,List.map_append,←List.append_assoc]
      refine paired_snoc ?_ ?_
      ·show upd _ D _ B2=_
       rw [upd_ne (Ne.symm hB2D),upd_same,List.map_append];rfl
      ·exact ways_keep hp2 fun x hx o ho=>by rw [upd_ne (hn2 x hx)];exact s3 _ _ ho
     ·intro x hx
      rcases List.mem_append.mp hx with hx | hx
      ·exact hn2 x hx
      ·rw [List.mem_singleton.mp hx];exact Ne.symm hB2D
   ·rintro σ H' ⟨s2,⟨as2,hD2,hp2,hn2⟩,v4,rfl⟩
    rw [List.length_map,List.take_length] at hp2
    refine ⟨s2,⟨as2,hD2,?_,hn2⟩,some (.ref c),v4,rfl⟩
    have e:longer (ws.take (i+1)) cs=longer (ws.take i) cs++cs.map fun k=>l++[k]:=by
     unfold longer
     rw [take_snoc hl,List.flatMap_append]
     simp
    rw [e];exact hp2
  ·rintro σ H' ⟨s1,⟨as1,hD1,hp1,hn1⟩,v3,v4,rfl⟩
   rw [List.length_map,hal,List.take_length] at hp1
   exact ⟨_,rfl,k H' D as1 s1 hD hD1 hp1⟩
def sp_all_ways (t:Adr):Sp:=fun vs H Q _=>∃A y m a L,vs=[.ref A.a,iN m,.ref a]∧YardAt t H A y∧Good y∧m < y.models.length∧H a=some (.lst (L.map iN))∧L.length≤3 ∧
 ∀H' p as',Same H H'→H p=none→H' p=some (.lst (as'.map V.ref))→Paired (WayAt H') as' (prod (fun u=>y.from_ u m) L)→Q (.ref p) H'
theorem from_len {y:Km415.Yard} (g:Good y) (u m:Nat):(y.from_ u m).length≤8:=by
 rw [from_eq]
 have:=List.length_filter_le (giveB y u m) (List.range y.cars.length)
 rw [List.length_range] at this
 have:=g.cl
 omega
theorem ok_all_ways (F:Fun K "all_ways" "all_ways" s_all_ways f fd) (T:Txt K mg t) (F_longer_ways:Fd P w K mg base "longer_ways" 1 ["ways","cars"] sp_longer_ways) (F_cars_that_give:Fd P w K mg base "cars_that_give" 3 ["yard","t","model"] (sp_cars_that_give t)) :
  FnOk P w K mg base CX0 4 f fd ["yard","model","lacks"] (sp_all_ways t):=by
 refine F.ok sc_all_ways (fun vs H Q E h=>?_) (fun cdv _ outer s H vs Q E hr h=>?_)
 ·obtain ⟨A,y,m,a,L,rfl,_⟩:=h;rfl
 ·obtain ⟨A,y,m,a,L,rfl,hy,g,hm,ha,hL,k⟩:=h
  have nd:=sc_all_ways.nd
  refine ⟨_,(pss_cons (ps_set (i:=3) nd rfl (by walk_at "lo") (pe_lst (pa_cons (pe_lst pa_nil) pa_nil))) (pss_cons (ps_for PassesOwn.never rfl (pi_listK K (pv 2)) (pg_name (i:=4) nd rfl (by walk_at "lo")) (pss_one (ps_set (i:=3) nd rfl (by walk_at "lo") (pe_fn F_longer_ways (hr.mono (by decide)) rfl (pa_cons (pv 3) (pa_cons (pe_fn F_cars_that_give (hr.mono (by decide)) rfl (pa_cons (pv 0) (pa_cons (pv 4) (pa_cons (pv 1) pa_nil)))) pa_nil)))))) (pss_one (ps_ret (pv 3))))),?_⟩
  refine ⟨Nat.zero_le _,fun B hB=>⟨by show 1≤sizeLine;decide,fun W0 hW0=>?_⟩⟩
  have s0:Same H (upd (upd H B (.lst [])) W0 (.lst [.ref B])):=(same_new hB).trans (same_new hW0)
  refine ⟨_,rfl,a,rfl,⟨_,SqL.of (s0 _ _ ha)⟩,?_⟩
  refine for_list (K:=K) (a:=a) (xs:=L.map iN) (fun i σ H'=>Same H H'∧∃p as' v4,H p=none∧H' p=some (.lst (as'.map V.ref))∧Paired (WayAt H') as' (prod (fun u=>y.from_ u m) (L.take i))∧σ=[some (.ref A.a),some (iN m),some (.ref a),some (.ref p),v4])
   ⟨s0,W0,[B],none,(same_new hB).free hW0,upd_same,.cons (by show upd _ W0 _ B=_;rw [upd_ne (ne_of_none upd_same hW0),upd_same];rfl) .nil,rfl⟩ (fun i σ H' _ q=>SqL.of (q.1 _ _ ha)) ?_ ?_
  ·rintro i x σ H' hx ⟨s1,p,as1,v4,hp,hp1,hw1,rfl⟩
   obtain ⟨u,hu,rfl⟩:=map_get hx
   have hil:i < L.length:=(List.getElem?_eq_some_iff.mp hu).1
   walk_at "rd"
   refine ⟨A,y,u,m,rfl,hy.same s1,g,hm,fun H2 q s2 hq hq2=>?_⟩
   have hfl:=from_len g u m
   refine ⟨p,as1,_,q,_,rfl,s2 _ _ hp1,ways_same s2 hw1,hq2,?_,?_,fun H3 p3 as3 s3 hp3 hp3' hw3=>?_⟩
   ·have h1:=prod_len (fun u=>y.from_ u m) (fun u=>from_len g u m) (L.take i)
    have h2:(8:Nat)^(L.take i).length≤8^2:=Nat.pow_le_pow_right (by decide) (by rw [List.length_take];omega)
    have h3:(prod (fun u=>y.from_ u m) (L.take i)).length * (y.from_ u m).length≤64 * 8:=Nat.mul_le_mul (by omega) hfl
    omega
   ·intro l hl
    rw [prod_length hl,List.length_take]
    omega
   ·refine ⟨(s1.trans s2).trans s3,p3,as3,some (iN u),?_,hp3',?_,rfl⟩
    ·exact (s1.trans s2).free hp3
    ·rw [take_snoc hu,prod_snoc];exact hw3
  ·rintro σ H' ⟨s1,p,as1,v4,hp,hp1,hw1,rfl⟩
   rw [List.length_map,List.take_length] at hw1
   exact ⟨_,rfl,k H' p as1 s1 hp hp1 hw1⟩
end
end Y58
namespace Y58
open PySem PySem.Spec PyProof.Rows L2
abbrev s_wanted_by_way:Stmt:=top 55
theorem sc_wanted_by_way:FnScope ["lacks","way","wanted","t","k"] ["lacks","way"] (defScope s_wanted_by_way):=by walk_at "sc"
abbrev s_must_by_way:Stmt:=top 56
theorem sc_must_by_way:FnScope ["yard","lacks","way","must","k","bits"] ["yard","lacks","way"] (defScope s_must_by_way):=by walk_at "sc"
abbrev s_way_takes:Stmt:=top 57
theorem sc_way_takes:FnScope ["yard","lacks","way","known","minutes","k","bits"] ["yard","lacks","way","known"] (defScope s_way_takes):=by walk_at "sc"
section
variable {P:Program} {w:World} {K:PySem.W.Frag} {mg:Str→Option Value} {base:Heap} {t:Adr} {f:Addr} {fd:FuncData}
def dictOfN (ks:List Nat) (g:Nat→V):List (Key×V):=ks.map fun (k:Nat)=>(Sum.inl (k:Int),g k)
theorem valV_dictOfN (g:Nat→V) (j:Nat):∀ks:List Nat,valV (dictOfN ks g) (Sum.inl (j:Int))=if j∈ks then some (g j) else none
 | []=>rfl
 | k::ks=>by
  show valV ((Sum.inl (k:Int),g k)::dictOfN ks g) _=_
  by_cases e:k=j
  ·subst e
   rw [valV_pos rfl,if_pos (by simp)]
  ·rw [valV_neg (by intro q;exact e (by have:=Sum.inl.inj q;omega)),valV_dictOfN g j ks]
   have:(j∈k::ks)↔j∈ks:=by
    have e':¬ j=k:=fun q=>e q.symm
    simp [e']
   by_cases h:j∈ks
   ·rw [if_pos h,if_pos (this.mpr h)]
   ·rw [if_neg h,if_neg (fun q=>h (this.mp q))]
theorem putK_dictOfN (g:Nat→V) (j:Nat) (v:V) (ks:List Nat):putK (dictOfN ks g) (Sum.inl (j:Int)) v=dictOfN (if ks.contains j then ks else ks++[j]) fun k=>if k=j then v else g k:=by
 by_cases h:j∈ks
 ·rw [if_pos (contains_iff.mpr h)]
  unfold putK
  have hv:(valV (dictOfN ks g) (Sum.inl (j:Int)))=some (g j):=by rw [valV_dictOfN,if_pos h]
  rw [valV_any,hv]
  simp only [Option.isSome_some,if_true]
  unfold dictOfN
  rw [List.map_map]
  apply List.map_congr_left
  intro k _
  show (if (Sum.inl (k:Int):Key)=Sum.inl (j:Int) then ((Sum.inl (k:Int):Key),v) else (Sum.inl (k:Int),g k))=(Sum.inl (k:Int),if k=j then v else g k)
  by_cases e:k=j
  ·subst e;rw [if_pos rfl,if_pos rfl]
  ·rw [if_neg (by intro q;exact e (by have:=Sum.inl.inj q;omega)),if_neg e]
 ·rw [if_neg (fun q=>h (contains_iff.mp q))]
  have hv:(valV (dictOfN ks g) (Sum.inl (j:Int)))=none:=by rw [valV_dictOfN,if_neg h]
  rw [putK_new v hv]
  unfold dictOfN
  rw [List.map_append]
  congr 1
  ·apply List.map_congr_left
   intro k hk
   show ((Sum.inl (k:Int):Key),g k)=(Sum.inl (k:Int),if k=j then v else g k)
   rw [if_neg (fun e:k=j=>h (e ▸ hk))]
  ·simp
def wantD (l:List (Nat×Nat)):List (Key×V):=dictOfN (carsOf l) fun k=>iN (wantOf l k)
theorem wantD_snoc (l:List (Nat×Nat)) (u k:Nat):putK (wantD l) (Sum.inl (k:Int)) (iN (wantOf l k ||| 2^u))=wantD (l++[(u,k)]):=by
 unfold wantD
 rw [putK_dictOfN,carsOf_snoc]
 congr 1
 funext j
 rw [wantOf_snoc]
 by_cases e:j=k
 ·subst e;rw [if_pos rfl,if_pos rfl]
 ·rw [if_neg e,if_neg (fun q:k=j=>e q.symm)]
theorem wantD_get (l:List (Nat×Nat)) (k:Nat):(valV (wantD l) (Sum.inl (k:Int))).getD (V.int 0)=iN (wantOf l k):=by
 unfold wantD
 rw [valV_dictOfN]
 by_cases h:k∈carsOf l
 ·rw [if_pos h];rfl
 ·rw [if_neg h,wantOf_none h];rfl
theorem carsOf_len (l:List (Nat×Nat)):(carsOf l).length≤l.length:=by
 have:∀(l:List (Nat×Nat)) (ks:List Nat),(l.foldl (fun ks p=>if ks.contains p.2 then ks else ks++[p.2]) ks).length≤ks.length+l.length:=by
  intro l
  induction l with
  | nil=>intro ks;simp
  | cons p l ih =>
   intro ks
   rw [List.foldl_cons,List.length_cons]
   refine Nat.le_trans (ih _) ?_
   split
   ·omega
   ·rw [List.length_append];simp;omega
 have:=this l []
 simpa [carsOf] using this
def sp_wanted_by_way:Sp:=fun vs H Q _=>∃(a:Addr) (L:List Nat) (b:Addr) (wy:List Nat),vs=[.ref a,.ref b]∧H a=some (.lst (L.map iN))∧H b=some (.lst (wy.map iN))∧wy.length=L.length∧L.length≤3∧(∀u∈L,u < 8) ∧
 ∀H' p,Same H H'→H p=none→H' p=some (.dK (wantD (L.zip wy)))→Q (.ref p) H'
theorem ok_wanted_by_way (F:Fun K "wanted_by_way" "wanted_by_way" s_wanted_by_way f fd) (T:Txt K mg t):FnOk P w K mg base CX0 1 f fd ["lacks","way"] sp_wanted_by_way:=by
 refine F.ok sc_wanted_by_way (fun vs H Q E h=>?_) (fun cdv _ outer s H vs Q E hr h=>?_)
 ·obtain ⟨a,L,b,wy,rfl,_⟩:=h;rfl
 ·obtain ⟨a,L,b,wy,rfl,ha,hb,hlen,h3,h8,k⟩:=h
  have nd:=sc_wanted_by_way.nd
  refine ⟨_,(pss_cons (ps_set (i:=2) nd rfl (by walk_at "lo") pe_dnewK) (pss_cons (ps_for PassesOwn.never rfl (pi_zipK K rfl T.b_zip (pa_cons (pv 0) (pa_cons (pv 1) pa_nil))) (pg_tupK K (n:=2) rfl (pgs_cons (pg_name (i:=3) nd rfl (by walk_at "lo")) (pgs_cons (pg_name (i:=4) nd rfl (by walk_at "lo")) pgs_nil))) (pss_one (ps_dput (hu_of hr) (pv 2) (pv 4) (pe_op op_or (pe_dget2 (hu_of hr) (pv 2) (pv 4) pe_int ⟨rfl,rfl,rfl,rfl⟩) (pe_op op_shl pe_int (pv 3))) rfl))) (pss_one (ps_ret (pv 2))))),?_⟩
  intro D hD
  have s0:Same H (upd H D (.dK [])):=same_new hD
  walk_at "rd"
  refine ⟨a,b,_,_,rfl,SqL.of (s0 _ _ ha),SqL.of (s0 _ _ hb),?_⟩
  refine for_it (n:=L.length) (fun i σ H'=>Same H H'∧H' D=some (.dK (wantD ((L.zip wy).take i)))∧∃v3 v4,σ=[some (.ref a),some (.ref b),some (.ref D),v3,v4]) ⟨s0,upd_same,none,none,rfl⟩ ?_ ?_ ?_ ?_
  ·rintro i σ H' hi ⟨s1,_⟩
   exact ⟨_,_,_,_,SqL.of (s1 _ _ ha),SqL.of (s1 _ _ hb),List.getElem?_eq_getElem (by rw [List.length_map];exact hi),List.getElem?_eq_getElem (by rw [List.length_map];omega)⟩
  ·rintro σ H' ⟨s1,_⟩
   exact ⟨_,_,SqL.of (s1 _ _ ha),SqL.of (s1 _ _ hb),.inl (by rw [List.length_map];exact Nat.le_refl _)⟩
  ·rintro i x σ H' H2 hi ⟨s1,hD1,v3,v4,rfl⟩ ⟨T',z1,z2,rfl,hT,rfl,hz1,hz2⟩
   obtain ⟨u,hu,rfl⟩:=map_get (hz1 _ (SqL.of (s1 _ _ ha)))
   obtain ⟨c,hc,rfl⟩:=map_get (hz2 _ (SqL.of (s1 _ _ hb)))
   have hu8:=h8 u (List.mem_of_getElem? hu)
   have hz:(L.zip wy)[i]?=some (u,c):=by rw [List.getElem?_zip_eq_some];exact ⟨hu,hc⟩
   have hD2:(upd H' T' (.tup [iN u,iN c])) D=some (.dK (wantD ((L.zip wy).take i))):=by rw [upd_ne (ne_of_none hD1 hT)];exact hD1
   refine ⟨T',_,rfl,SqT.of upd_same,rfl,_,_,rfl,_,_,rfl,rfl,?_⟩
   walk_at "rd"
   refine ⟨.inl ⟨_,.inl hD2⟩,_,rfl,_,DGet.k (k:=Sum.inl (c:Int)) hD2,?_⟩
   rw [wantD_get]
   walk_at "rd"
   refine ⟨cpow_nat (a:=1) (by decide) (by omega),?_⟩
   walk_at "rd"
   have hlen':(wantD ((L.zip wy).take i)).length < sizeLine:=by
    refine small ?_
    unfold wantD dictOfN
    rw [List.length_map]
    have h1:=carsOf_len ((L.zip wy).take i)
    rw [List.length_take,List.length_zip] at h1
    omega
   refine ⟨D,_,rfl,DPut.k (k:=Sum.inl (c:Int)) hD2 hlen',same_upd (same_upd s1 (s1.free hT)) hD,?_,some (iN u),some (iN c),rfl⟩
   rw [upd_same,take_snoc hz,←wantD_snoc]
   show some (HO.dK (putK _ _ (V.int (Builtin.bitOr ((wantOf ((L.zip wy).take i) c:Nat):Int) (1 * 2^((u:Int)).toNat)))))=_
   rw [shl_nat,or_nat]
  ·rintro σ H' ⟨s1,hD1,v3,v4,rfl⟩
   have e:(L.zip wy).take L.length=L.zip wy:=by
    apply List.take_of_length_le
    rw [List.length_zip];omega
   rw [e] at hD1
   exact ⟨_,rfl,k H' D s1 hD hD1⟩
def mustOf (y:Km415.Yard) (l:List (Nat×Nat)) (k:Nat):Nat:=match y.cars[k]? with
 | some c=>y.closed c 8 (wantOf l k)
 | none=>0
def mustD (y:Km415.Yard) (l:List (Nat×Nat)):List (Key×V):=dictOfN (carsOf l) fun k=>iN (mustOf y l k)
theorem dictOfN_snoc (ks:List Nat) (g:Nat→V) (k:Nat) (h:k ∉ ks):putK (dictOfN ks g) (Sum.inl (k:Int)) (g k)=dictOfN (ks++[k]) g:=by
 rw [putK_dictOfN,if_neg (fun q=>h (contains_iff.mp q))]
 congr 1
 funext j
 by_cases e:j=k
 ·subst e;rw [if_pos rfl]
 ·rw [if_neg e]
def sp_must_by_way (t:Adr):Sp:=fun vs H Q _=>∃(A:YA) (y:Km415.Yard) (a:Addr) (L:List Nat) (b:Addr) (wy:List Nat),vs=[.ref A.a,.ref a,.ref b]∧YardAt t H A y∧Good y∧H a=some (.lst (L.map iN))∧H b=some (.lst (wy.map iN))∧wy.length=L.length∧L.length≤3∧(∀u∈L,u < 8)∧(∀k∈wy,k < y.cars.length) ∧
 ∀H' p,Same H H'→H p=none→H' p=some (.dK (mustD y (L.zip wy)))→Q (.ref p) H'
theorem zip_mem_snd {L wy:List Nat} {k:Nat} (h:k∈carsOf (L.zip wy)):k∈wy:=by
 obtain ⟨p,hp,rfl⟩:=mem_carsOf.mp h
 exact zip_snd _ _ p.1 p.2 hp
theorem ok_must_by_way (F:Fun K "must_by_way" "must_by_way" s_must_by_way f fd) (T:Txt K mg t) (F_wanted_by_way:Fd P w K mg base "wanted_by_way" 1 ["lacks","way"] sp_wanted_by_way) (F_must_come_off:Fd P w K mg base "must_come_off" 1 ["yard","car","wanted"] (sp_must_come_off t)) :
  FnOk P w K mg base CX0 2 f fd ["yard","lacks","way"] (sp_must_by_way t):=by
 refine F.ok sc_must_by_way (fun vs H Q E h=>?_) (fun cdv _ outer s H vs Q E hr h=>?_)
 ·obtain ⟨A,y,a,L,b,wy,rfl,_⟩:=h;rfl
 ·obtain ⟨A,y,a,L,b,wy,rfl,hy,g,ha,hb,hlen,h3,h8,hcs,k⟩:=h
  have nd:=sc_must_by_way.nd
  refine ⟨_,(pss_cons (ps_set (i:=3) nd rfl (by walk_at "lo") pe_dnewK) (pss_cons (ps_for PassesOwn.never rfl (pi_items (pe_freeze (pe_fn F_wanted_by_way (hr.mono (by decide)) rfl (pa_cons (pv 1) (pa_cons (pv 2) pa_nil))))) (pg_tupK K (n:=2) rfl (pgs_cons (pg_name (i:=4) nd rfl (by walk_at "lo")) (pgs_cons (pg_name (i:=5) nd rfl (by walk_at "lo")) pgs_nil))) (pss_one (ps_dput (hu_of hr) (pv 3) (pv 4) (pe_fn F_must_come_off (hr.mono (by decide)) rfl (pa_cons (pv 0) (pa_cons (pe_ix (ix_listK K) (pe_fldK K (pv 0) rfl) (pv 4) (fun _ _=>rfl)) (pa_cons (pv 5) pa_nil)))) rfl))) (pss_one (ps_ret (pv 3))))),?_⟩
  intro D hD
  have s0:Same H (upd H D (.dK [])):=same_new hD
  walk_at "rd"
  refine ⟨a,L,b,wy,rfl,s0 _ _ ha,s0 _ _ hb,hlen,h3,h8,fun H1 d s1 hd hd1=>?_⟩
  refine ⟨d,_,rfl,hd1,trivial,fun od=>?_⟩
  refine ⟨d,od,_,rfl,upd_same,?_⟩
  have s2:Same H (upd H1 d (.frz od (.dK (wantD (L.zip wy))))):=same_upd (s0.trans s1) (s0.free hd)
  have hDd:D≠d:=ne_of_none upd_same hd
  have hclen:(carsOf (L.zip wy)).length≤3:=by
   have h1:=carsOf_len (L.zip wy)
   rw [List.length_zip] at h1
   omega
  have hwl:(wantD (L.zip wy)).length=(carsOf (L.zip wy)).length:=by unfold wantD dictOfN;rw [List.length_map]
  refine for_it (n:=(carsOf (L.zip wy)).length) (fun i σ H'=>Same H H'∧H' d=some (.frz od (.dK (wantD (L.zip wy))))∧H' D=some (.dK (dictOfN ((carsOf (L.zip wy)).take i) fun k=>iN (mustOf y (L.zip wy) k)))∧∃v4 v5,σ=[some (.ref A.a),some (.ref a),some (.ref b),some (.ref D),v4,v5])
   ⟨s2,upd_same,by rw [upd_ne hDd];exact s1 _ _ upd_same,none,none,rfl⟩ ?_ ?_ ?_ ?_
  ·rintro i σ H' hi ⟨_,h1,_⟩
   exact ⟨h1,by rw [hwl];exact hi⟩
  ·rintro σ H' ⟨_,h1,_⟩
   exact ⟨h1,by rw [hwl];exact Nat.le_refl _⟩
  ·rintro i x σ H' H2 hi ⟨s3,h1,hD1,v4,v5,rfl⟩ ⟨T',kk,vv,hkv,rfl,hT,rfl⟩
   obtain ⟨c,hc,e⟩:=map_get (show ((carsOf (L.zip wy)).map fun (k:Nat)=>((Sum.inl (k:Int):Key),iN (wantOf (L.zip wy) k)))[i]?=some (kk,vv) from hkv)
   cases e
   have hcm:=List.mem_of_getElem? hc
   have hcl:=hcs c (zip_mem_snd hcm)
   have s4:Same H (upd H' T' (.tup [kV (Sum.inl (c:Int)),iN (wantOf (L.zip wy) c)])):=same_upd s3 (s3.free hT)
   have hy4:=hy.same s4
   obtain ⟨dy,hme⟩:=hy4.me
   have hcll:=hy4.cl
   have hx:y.cars[c]?=some y.cars[c]:=List.getElem?_eq_getElem hcl
   obtain ⟨bb,db,_,hbb,hcb⟩:=hy4.car hx
   have hD2:(upd H' T' (.tup [kV (Sum.inl (c:Int)),iN (wantOf (L.zip wy) c)])) D=some (.dK (dictOfN ((carsOf (L.zip wy)).take i) fun k=>iN (mustOf y (L.zip wy) k))):=by rw [upd_ne (ne_of_none hD1 hT)];exact hD1
   have hd2:(upd H' T' (.tup [kV (Sum.inl (c:Int)),iN (wantOf (L.zip wy) c)])) d=some (.frz od (.dK (wantD (L.zip wy)))):=by rw [upd_ne (ne_of_none h1 hT)];exact h1
   refine ⟨T',_,rfl,SqT.of upd_same,rfl,_,_,rfl,_,_,rfl,rfl,?_⟩
   walk_at "rd"
   refine ⟨A,y,bb,db,_,wantOf (L.zip wy) c,rfl,hy4,g,hcb,?_⟩
   walk_at "rd"
   have hlen':(dictOfN ((carsOf (L.zip wy)).take i) fun k=>iN (mustOf y (L.zip wy) k)).length < sizeLine:=by
    refine small ?_
    unfold dictOfN
    rw [List.length_map,List.length_take]
    omega
   refine ⟨D,_,rfl,DPut.k (k:=Sum.inl (c:Int)) hD2 hlen',same_upd s4 hD,?_,?_,some (iN c),some (iN (wantOf (L.zip wy) c)),rfl⟩
   ·rw [upd_ne (Ne.symm hDd)];exact hd2
   ·rw [upd_same,take_snoc hc]
    have nd':c ∉ (carsOf (L.zip wy)).take i:=by
     have n0:=carsOf_nodup (L.zip wy)
     intro hm
     obtain ⟨j,hj,ej⟩:=List.getElem_of_mem hm
     rw [List.length_take] at hj
     have hj':(carsOf (L.zip wy))[j]?=some c:=by
      rw [List.getElem_take] at ej
      rw [List.getElem?_eq_getElem (by omega),ej]
     have:=nd_ix n0 hj' hc
     omega
    rw [←dictOfN_snoc _ _ _ nd']
    have e:mustOf y (L.zip wy) c=y.closed y.cars[c] 8 (wantOf (L.zip wy) c):=by unfold mustOf;rw [hx]
    rw [e]
  ·rintro σ H' ⟨s3,h1,hD1,v4,v5,rfl⟩
   rw [List.take_length] at hD1
   exact ⟨_,rfl,k H' D s3 hD hD1⟩
end
end Y58
namespace Y58
open PySem PySem.Spec PyProof.Rows L2
section
variable {P:Program} {w:World} {K:PySem.W.Frag} {mg:Str→Option Value} {base:Heap} {t:Adr} {f:Addr} {fd:FuncData}
def timeOf (y:Km415.Yard) (k b:Nat):Nat:=match y.cars[k]? with
 | some c=>y.time c b
 | none=>0
abbrev key2 (k b:Nat):List Key:=[Sum.inl (k:Int),Sum.inl (b:Int)]
theorem key2_inj {k b k' b':Nat} (h:key2 k b=key2 k' b'):k=k'∧b=b':=by
 have h1:=List.cons.inj h
 have h2:=List.cons.inj h1.2
 have e1:=Sum.inl.inj h1.1
 have e2:=Sum.inl.inj h2.1
 exact ⟨by omega,by omega⟩
def knownD (y:Km415.Yard) (l:List (Nat×Nat)):List (List Key×V):=l.map fun q=>(key2 q.1 q.2,iN (timeOf y q.1 q.2))
theorem knownD_val (y:Km415.Yard) (k b:Nat):∀l:List (Nat×Nat),valV (knownD y l) (key2 k b)=if (k,b)∈l then some (iN (timeOf y k b)) else none
 | []=>rfl
 | q::l=>by
  show valV ((key2 q.1 q.2,iN (timeOf y q.1 q.2))::knownD y l) _=_
  by_cases e:q=(k,b)
  ·subst e
   rw [valV_pos rfl,if_pos (by simp)]
  ·rw [valV_neg (by intro z;obtain ⟨e1,e2⟩:=key2_inj z;exact e (Prod.ext e1 e2)),knownD_val y k b l]
   have e':¬ (k,b)=q:=fun z=>e z.symm
   by_cases h:(k,b)∈l
   ·rw [if_pos h,if_pos (by simp [h])]
   ·rw [if_neg h,if_neg (by simp [h,e'])]
theorem knownD_put (y:Km415.Yard) (k b:Nat) (l:List (Nat×Nat)) (h:(k,b) ∉ l):putK (knownD y l) (key2 k b) (iN (timeOf y k b))=knownD y (l++[(k,b)]):=by
 rw [putK_new _ (by rw [knownD_val,if_neg h])]
 unfold knownD
 rw [List.map_append];rfl
theorem ne_dT {H:Hp} {a b:Addr} {o:HO} {kvs:List (List Key×V)} (h:H a=some o) (hb:H b=some (.dT kvs)) (n:∀k,o≠.dT k):a≠b:=ne_of h hb (n kvs)
theorem YardAt.keepD {H H':Hp} {A:YA} {y:Km415.Yard} {b:Addr} {kvs:List (List Key×V)} (h:YardAt t H A y) (hb:H b=some (.dT kvs)) (kp:Keep b H H'):YardAt t H' A y:=by
 obtain ⟨dy,hy⟩:=h.me
 refine ⟨⟨dy,kp _ _ hy (ne_dT hy hb (by intro k z;cases z))⟩,kp _ _ h.kl (ne_dT h.kl hb (by intro k z;cases z)),kp _ _ h.ml (ne_dT h.ml hb (by intro k z;cases z)),kp _ _ h.cl (ne_dT h.cl hb (by intro k z;cases z)),kp _ _ h.sl (ne_dT h.sl hb (by intro k z;cases z)),
  kinds_keep kp (fun a d x q=>ne_dT q hb (by intro k z;cases z)) h.ks,models_keep kp (fun a d x g q=>ne_dT q hb (by intro k z;cases z)) (fun a xs q=>ne_dT q hb (by intro k z;cases z)) h.ms,cars_keep kp h.cs (fun a ha=>?_),parts_keep kp (fun a xs q=>ne_dT q hb (by intro k z;cases z)) h.st,h.nd⟩
 obtain ⟨i,hi,e⟩:=List.getElem_of_mem ha
 obtain ⟨c,_,⟨d,hd⟩⟩:=paired_get' h.cs (show A.cs[i]?=some a by rw [List.getElem?_eq_getElem hi,e])
 exact ne_dT hd hb (by intro k z;cases z)
theorem Keep.trans {b:Addr} {H H1 H2:Hp} (h1:Keep b H H1) (h2:Keep b H1 H2):Keep b H H2:=fun a o e n=>h2 a o (h1 a o e n) n
theorem Keep.same {b:Addr} {H H':Hp} (s:Same H H'):Keep b H H':=fun a o e _=>s a o e
theorem Keep.free {b:Addr} {H H':Hp} (h:Keep b H H') {a:Addr} (e:H' a=none) (n:a≠b):H a=none:=by
 cases q:H a with
 | none=>rfl
 | some o=>rw [h a o q n] at e;cases e
theorem wantOf_lt {l:List (Nat×Nat)} {k n:Nat} (h:∀p∈l,p.1 < n):wantOf l k < 2^n:=by
 unfold wantOf
 refine bitsOf_lt fun u hu=>?_
 obtain ⟨p,hp,rfl⟩:=List.mem_map.mp hu
 exact h p (List.mem_filter.mp hp).1
def sp_way_takes (t:Adr):Sp:=fun vs H Q _=>∃(A:YA) (y:Km415.Yard) (a:Addr) (L:List Nat) (b:Addr) (wy:List Nat) (kn:Addr) (l:List (Nat×Nat)),vs=[.ref A.a,.ref a,.ref b,.ref kn]∧YardAt t H A y∧Good y∧H a=some (.lst (L.map iN))∧H b=some (.lst (wy.map iN))∧wy.length=L.length∧L.length≤3 ∧
 (∀u∈L,u < y.types.length)∧(∀k∈wy,k < y.cars.length)∧H kn=some (.dT (knownD y l))∧l.length≤10000 ∧
 ∀H' l',Keep kn H H'→H' kn=some (.dT (knownD y l'))→l'.length≤l.length+3→Q (iN (y.cost (L.zip wy))) H'
theorem ok_way_takes (F:Fun K "way_takes" "way_takes" s_way_takes f fd) (T:Txt K mg t) (F_wanted_by_way:Fd P w K mg base "wanted_by_way" 1 ["lacks","way"] sp_wanted_by_way) (F_must_come_off:Fd P w K mg base "must_come_off" 1 ["yard","car","wanted"] (sp_must_come_off t))
  (F_minutes_of:Fd P w K mg base "minutes_of" 2 ["yard","bits"] (sp_minutes_of t)):FnOk P w K mg base CX0 3 f fd ["yard","lacks","way","known"] (sp_way_takes t):=by
 refine F.ok sc_way_takes (fun vs H Q E h=>?_) (fun cdv _ outer s H vs Q E hr h=>?_)
 ·obtain ⟨A,y,a,L,b,wy,kn,l,rfl,_⟩:=h;rfl
 ·obtain ⟨A,y,a,L,b,wy,kn,l,rfl,hy,g,ha,hb,hlen,h3,h8,hcs,hkn,hll,k⟩:=h
  have nd:=sc_way_takes.nd
  have htl:=g.tl
  refine ⟨_,(pss_cons (ps_set (i:=4) nd rfl (by walk_at "lo") pe_int) (pss_cons (ps_for PassesOwn.never rfl (pi_items (pe_freeze (pe_fn F_wanted_by_way (hr.mono (by decide)) rfl (pa_cons (pv 1) (pa_cons (pv 2) pa_nil))))) (pg_tupK K (n:=2) rfl (pgs_cons (pg_name (i:=5) nd rfl (by walk_at "lo")) (pgs_cons (pg_name (i:=6) nd rfl (by walk_at "lo")) pgs_nil))) (pss_cons (ps_if (pt_cmp (pc_dnotin (hu_of hr) (pe_tup (pa_cons (pv 5) (pa_cons (pv 6) pa_nil))) (pv 3))) (pss_one (ps_dput (hu_of hr) (pv 3) (pe_tup (pa_cons (pv 5) (pa_cons (pv 6) pa_nil))) (pe_fn F_minutes_of (hr.mono (by decide)) rfl (pa_cons (pv 0) (pa_cons (pe_fn F_must_come_off (hr.mono (by decide)) rfl (pa_cons (pv 0) (pa_cons (pe_ix (ix_listK K) (pe_fldK K (pv 0) rfl) (pv 5) (fun _ _=>rfl)) (pa_cons (pv 6) pa_nil)))) pa_nil))) rfl)) pss_nil) (pss_one (ps_aug (i:=4) nd rfl (by walk_at "lo") (pe_dget (hu_of hr) (pv 3) (pe_tup (pa_cons (pv 5) (pa_cons (pv 6) pa_nil))) (fun _ _=>rfl)) ip_add)))) (pss_one (ps_ret (pv 4))))),?_⟩
  walk_at "rd"
  refine ⟨a,L,b,wy,rfl,ha,hb,hlen,h3,fun u hu=>by have:=h8 u hu;omega,fun H1 d s1 hd hd1=>?_⟩
  refine ⟨d,_,rfl,hd1,trivial,fun od=>?_⟩
  refine ⟨d,od,_,rfl,upd_same,?_⟩
  have s2:Same H (upd H1 d (.frz od (.dK (wantD (L.zip wy))))):=same_upd s1 hd
  have hknd:kn≠d:=ne_of_none hkn hd
  have hclen:(carsOf (L.zip wy)).length≤3:=by
   have h1:=carsOf_len (L.zip wy)
   rw [List.length_zip] at h1
   omega
  have hwl:(wantD (L.zip wy)).length=(carsOf (L.zip wy)).length:=by unfold wantD dictOfN;rw [List.length_map]
  have hcost:y.cost (L.zip wy)=Km415.sum ((carsOf (L.zip wy)).map fun k=>timeOf y k (wantOf (L.zip wy) k)):=by
   rw [cost_eq y _ (fun p hp=>hcs p.2 (zip_snd _ _ p.1 p.2 hp))];rfl
  refine for_it (n:=(carsOf (L.zip wy)).length) (fun i σ H'=>Keep kn H H'∧H' d=some (.frz od (.dK (wantD (L.zip wy))))∧(∃l',H' kn=some (.dT (knownD y l'))∧l'.length≤l.length+i) ∧
   ∃v5 v6,σ=[some (.ref A.a),some (.ref a),some (.ref b),some (.ref kn),some (iN (Km415.sum (((carsOf (L.zip wy)).take i).map fun k=>timeOf y k (wantOf (L.zip wy) k)))),v5,v6])
   ⟨Keep.same s2,upd_same,⟨l,s2 _ _ hkn,by omega⟩,none,none,rfl⟩ ?_ ?_ ?_ ?_
  ·rintro i σ H' hi ⟨_,h1,_⟩
   exact ⟨h1,by rw [hwl];exact hi⟩
  ·rintro σ H' ⟨_,h1,_⟩
   exact ⟨h1,by rw [hwl];exact Nat.le_refl _⟩
  ·rintro i x σ H' H2 hi ⟨kp,h1,⟨l1,hk1,hl1⟩,v5,v6,rfl⟩ ⟨T',kk,vv,hkv,rfl,hT,rfl⟩
   obtain ⟨c,hc,e⟩:=map_get (show ((carsOf (L.zip wy)).map fun (k:Nat)=>((Sum.inl (k:Int):Key),iN (wantOf (L.zip wy) k)))[i]?=some (kk,vv) from hkv)
   cases e
   have hcm:=List.mem_of_getElem? hc
   have hcl:=hcs c (zip_mem_snd hcm)
   have hx:y.cars[c]?=some y.cars[c]:=List.getElem?_eq_getElem hcl
   generalize hwb:wantOf (L.zip wy) c=wb at hT
   have hwlt:wb < 2^y.types.length:=by rw [←hwb];exact wantOf_lt fun p hp=>h8 p.1 (List.of_mem_zip hp).1
   refine ⟨T',_,rfl,SqT.of upd_same,rfl,_,_,rfl,_,_,rfl,rfl,?_⟩
   have sa:Same H' (upd H' T' (.tup [kV (Sum.inl (c:Int)),iN wb])):=same_new hT
   refine ⟨_,rfl,_,rfl,by show 2≤sizeLine;decide,fun T1 hT1=>?_⟩
   have sb:Same H' (upd (upd H' T' (.tup [kV (Sum.inl (c:Int)),iN wb])) T1 (.tup ((key2 c wb).map kV))):=sa.trans (same_new hT1)
   have eT1:(upd (upd H' T' (.tup [kV (Sum.inl (c:Int)),iN wb])) T1 (.tup ((key2 c wb).map kV))) T1=some (.tup ((key2 c wb).map kV)):=upd_same
   revert sb eT1
   generalize hHb:upd (upd H' T' (.tup [kV (Sum.inl (c:Int)),iN wb])) T1 (.tup ((key2 c wb).map kV))=Hb
   intro sb eT1
   have esum:Km415.sum (((carsOf (L.zip wy)).take (i+1)).map fun k=>timeOf y k (wantOf (L.zip wy) k))=Km415.sum (((carsOf (L.zip wy)).take i).map fun k=>timeOf y k (wantOf (L.zip wy) k))+timeOf y c wb:=by
    rw [take_snoc hc,List.map_append,sum_append,←hwb,List.map_cons,List.map_nil,sum_cons,sum_nil,Nat.add_zero]
   have hHb':upd (upd H' T' (.tup [kV (Sum.inl (c:Int)),iN wb])) T1 (.tup [kV (Sum.inl (c:Int)),iN wb])=Hb:=hHb
   have kb:Keep kn H Hb:=kp.trans (Keep.same sb)
   show tVar 3 _ (upd (upd H' T' (.tup [kV (Sum.inl (c:Int)),iN wb])) T1 (.tup [kV (Sum.inl (c:Int)),iN wb])) _
   rw [hHb']
   refine ⟨_,rfl,kn,_,rfl,DGet.t (k:=key2 c wb) (sb _ _ hk1) eT1,_,rfl,?_⟩
   rw [knownD_val]
   by_cases hm:(c,wb)∈l1
   ·rw [if_pos hm]
    refine iteF ?_
    refine ⟨_,rfl,_,rfl,_,rfl,_,rfl,by show 2≤sizeLine;decide,fun T3 hT3=>?_⟩
    have sc:Same Hb (upd Hb T3 (.tup ((key2 c wb).map kV))):=same_new hT3
    refine ⟨kn,iN (timeOf y c wb),rfl,?_,_,_,rfl,rfl,?_⟩
    ·have q:=DGet.t (k:=key2 c wb) (sc _ _ (sb _ _ hk1)) (upd_same (H:=Hb) (a:=T3) (o:=.tup ((key2 c wb).map kV)))
     rw [knownD_val,if_pos hm] at q
     exact q
    ·refine ⟨kb.trans (Keep.same sc),sc _ _ (sb _ _ h1),⟨l1,sc _ _ (sb _ _ hk1),by omega⟩,some (iN c),some (iN wb),?_⟩
     rw [esum]
     rfl
   ·rw [if_neg hm]
    refine iteT ?_
    have hyb:=hy.keepD hkn kb
    obtain ⟨dy,hme⟩:=hyb.me
    have hcll:=hyb.cl
    obtain ⟨bb,db,_,hbb,hcb⟩:=hyb.car hx
    walk_at "rd"
    refine ⟨A,y,bb,db,_,wb,rfl,hyb,g,hcb,?_⟩
    walk_at "rd"
    refine ⟨A,y,_,rfl,hyb,g.tl,g.closed_lt hx hwlt,fun Hc sc=>?_⟩
    refine ⟨_,rfl,_,rfl,_,rfl,by show 2≤sizeLine;decide,fun T2 hT2=>?_⟩
    have sd:Same Hb (upd Hc T2 (.tup ((key2 c wb).map kV))):=sc.trans (same_new hT2)
    have hkd:=sd _ _ (sb _ _ hk1)
    have hlen':(knownD y l1).length < sizeLine:=by
     refine small ?_
     unfold knownD
     rw [List.length_map];omega
    refine ⟨kn,_,rfl,DPut.t (k:=key2 c wb) hkd (upd_same (H:=Hc) (a:=T2) (o:=.tup ((key2 c wb).map kV))) hlen',?_⟩
    have et:timeOf y c wb=Km415.sum ((Km415.kinds 8 (y.closed y.cars[c] 8 wb)).map y.minutesOf):=by unfold timeOf;rw [hx];rfl
    rw [←et,knownD_put y c wb l1 hm]
    have ke:Keep kn Hb (upd (upd Hc T2 (.tup [kV (Sum.inl (c:Int)),iN wb])) kn (.dT (knownD y (l1++[(c,wb)])))):=(Keep.same sd).trans (Keep.upd _ _ _)
    have hke:(upd (upd Hc T2 (.tup [kV (Sum.inl (c:Int)),iN wb])) kn (.dT (knownD y (l1++[(c,wb)])))) kn=some (.dT (knownD y (l1++[(c,wb)]))):=upd_same
    refine ⟨_,rfl,_,rfl,_,rfl,_,rfl,by show 2≤sizeLine;decide,fun T3 hT3=>?_⟩
    have sf:Same (upd (upd Hc T2 (.tup [kV (Sum.inl (c:Int)),iN wb])) kn (.dT (knownD y (l1++[(c,wb)])))) (upd (upd (upd Hc T2 (.tup [kV (Sum.inl (c:Int)),iN wb])) kn (.dT (knownD y (l1++[(c,wb)])))) T3 (.tup ((key2 c wb).map kV))):=same_new hT3
    refine ⟨kn,iN (timeOf y c wb),rfl,?_,_,_,rfl,rfl,?_⟩
    ·have q:=DGet.t (k:=key2 c wb) (sf _ _ hke) (upd_same (H:=(upd (upd Hc T2 (.tup [kV (Sum.inl (c:Int)),iN wb])) kn (.dT (knownD y (l1++[(c,wb)]))))) (a:=T3) (o:=.tup ((key2 c wb).map kV)))
     rw [knownD_val,if_pos (by simp)] at q
     exact q
    ·refine ⟨(kb.trans ke).trans (Keep.same sf),sf _ _ (ke _ _ (sb _ _ h1) (Ne.symm hknd)),⟨l1++[(c,wb)],sf _ _ hke,by rw [List.length_append];simp;omega⟩,some (iN c),some (iN wb),?_⟩
     rw [esum]
     rfl
  ·rintro σ H' ⟨kp,h1,⟨l1,hk1,hl1⟩,v5,v6,rfl⟩
   rw [List.take_length,←hcost]
   exact ⟨_,rfl,k H' l1 kp hk1 (by omega)⟩
end
end Y58
namespace Y58
open PySem PySem.Spec PyProof.Rows L2
abbrev s_least_way:Stmt:=top 58
theorem sc_least_way:FnScope ["yard","model","lacks","known"] ["yard","model","lacks"] (defScope s_least_way):=by walk_at "sc"
def lamOf (s:Stmt):Option (Arguments×Expr×Scope×Pos):=match s with
 | .Return (some (.Call _ _ (k::_) _)) _=>(match k.value with
  | .Lambda a b c d=>some (a,b,c,d)
  | _=>none)
 | _=>none
def lamIt:Arguments×Expr×Scope×Pos:=((lamOf ((defBody s_least_way).getD 1 (.Pass ⟨0,0,0,0⟩))).getD (defArgs s_least_way,.Constant .none 0 ⟨0,0,0,0⟩,defScope s_least_way,⟨0,0,0,0⟩))
abbrev lamScope:Scope:=lamIt.2.2.1
abbrev lamPos:Pos:=lamIt.2.2.2
abbrev lamQual:Str:=Str.ofString "least_way"++".<locals>."++"<lambda>"
theorem lam_ok:LamOk (defScope s_least_way) lamScope "way" ["yard","lacks","known"] :=
 ⟨rfl,rfl,rfl,rfl,by decide +kernel,by decide +kernel,by decide +kernel,by decide +kernel,by decide +kernel⟩
section
variable {P:Program} {w:World} {K:PySem.W.Frag} {mg:Str→Option Value} {base:Heap} {t:Adr} {f:Addr} {fd:FuncData}
abbrev waysOf (y:Km415.Yard) (m:Nat) (L:List Nat):List (List Nat):=prod (fun u=>y.from_ u m) L
def costAt (y:Km415.Yard) (m:Nat) (L:List Nat) (j:Nat):Int:=((y.cost (L.zip ((waysOf y m L).getD j [])):Nat):Int)
abbrev TabL (H:Hp) (Pt:Addr):Prop:=TabAt H Pt lamPos lamQual
theorem TabL.keep {H H':Hp} {Pt b:Addr} {kvs:List (List Key×V)} (h:TabL H Pt) (hb:H b=some (.dT kvs)) (kp:Keep b H H'):TabL H' Pt:=by
 rcases h with h | ⟨c',h1,h2⟩
 ·exact .inl (kp _ _ h (ne_dT h hb (by intro k z;cases z)))
 ·exact .inr ⟨c',kp _ _ h1 (ne_dT h1 hb (by intro k z;cases z)),kp _ _ h2 (ne_dT h2 hb (by intro k z;cases z))⟩
theorem TabL.same {H H':Hp} {Pt:Addr} (h:TabL H Pt) (s:Same H H'):TabL H' Pt:=by
 rcases h with h | ⟨c',h1,h2⟩
 ·exact .inl (s _ _ h)
 ·exact .inr ⟨c',s _ _ h1,s _ _ h2⟩
theorem TabL.there {H:Hp} {Pt:Addr} (h:TabL H Pt):∃ps,H Pt=some (.tbl ps):=by
 rcases h with h | ⟨c',h1,_⟩
 ·exact ⟨_,h⟩
 ·exact ⟨_,h1⟩
theorem ne_tb {H:Hp} {a b:Addr} {o:HO} {ps:Array Value} (h:H a=some o) (hb:H b=some (.tbl ps)) (n:∀k,o≠.tbl k):a≠b:=ne_of h hb (n ps)
theorem YardAt.keepT {H H':Hp} {A:YA} {y:Km415.Yard} {b:Addr} {ps:Array Value} (h:YardAt t H A y) (hb:H b=some (.tbl ps)) (kp:Keep b H H'):YardAt t H' A y:=by
 obtain ⟨dy,hy⟩:=h.me
 refine ⟨⟨dy,kp _ _ hy (ne_tb hy hb (by intro k z;cases z))⟩,kp _ _ h.kl (ne_tb h.kl hb (by intro k z;cases z)),kp _ _ h.ml (ne_tb h.ml hb (by intro k z;cases z)),kp _ _ h.cl (ne_tb h.cl hb (by intro k z;cases z)),kp _ _ h.sl (ne_tb h.sl hb (by intro k z;cases z)),
  kinds_keep kp (fun a d x q=>ne_tb q hb (by intro k z;cases z)) h.ks,models_keep kp (fun a d x g q=>ne_tb q hb (by intro k z;cases z)) (fun a xs q=>ne_tb q hb (by intro k z;cases z)) h.ms,cars_keep kp h.cs (fun a ha=>?_),parts_keep kp (fun a xs q=>ne_tb q hb (by intro k z;cases z)) h.st,h.nd⟩
 obtain ⟨i,hi,e⟩:=List.getElem_of_mem ha
 obtain ⟨c,_,⟨d,hd⟩⟩:=paired_get' h.cs (show A.cs[i]?=some a by rw [List.getElem?_eq_getElem hi,e])
 exact ne_tb hd hb (by intro k z;cases z)
structure MinSt (t:Adr) (y:Km415.Yard) (A:YA) (a p kn f c' Pt:Addr) (as:List Addr) (m:Nat) (L:List Nat) (o:Obj) (H0:Hp) (j:Nat) (H:Hp):Prop where
 at_:YardAt t H A y
 ha:H a=some (.lst (L.map iN))
 hp:H p=some (.lst (as.map V.ref))
 hw:Paired (WayAt H) as (waysOf y m L)
 kn:∃l,H kn=some (.dT (knownD y l))∧l.length≤3 * j
 hf:H f=some (.ext (isFn f o))
 hc:H c'=some (.ext (codeOk lamQual c'))
 tab:TabL H Pt
 keep:Keep Pt H0 H
def sp_least_way (t:Adr) (Pt:Addr):Sp:=fun vs H Q _=>∃(A:YA) (y:Km415.Yard) (m:Nat) (a:Addr) (L:List Nat),vs=[.ref A.a,iN m,.ref a]∧YardAt t H A y∧Good y∧m < y.models.length∧H a=some (.lst (L.map iN))∧L.length≤3∧(∀u∈L,u < y.types.length)∧TabL H Pt ∧
 (waysOf y m L=[]→∀H',Keep Pt H H'→TabL H' Pt→Q .non H') ∧
 (∀i wy b H',(waysOf y m L)[i]?=some wy→FirstLeast (costAt y m L) (waysOf y m L).length i→Keep Pt H H'→TabL H' Pt→H' b=some (.lst (wy.map iN))→Q (.ref b) H')
theorem ok_least_way {c Pt:Addr} (F:FunC K "least_way" "least_way" s_least_way f fd c) (T:Txt K mg t) (LH:LamHd K mg base c Pt) (F_all_ways:Fd P w K mg base "all_ways" 4 ["yard","model","lacks"] (sp_all_ways t)) (F_way_takes:Fd P w K mg base "way_takes" 3 ["yard","lacks","way","known"] (sp_way_takes t)) :
  FnOk P w K mg base CX0 6 f fd ["yard","model","lacks"] (sp_least_way t Pt):=by
 refine F.ok sc_least_way (fun vs H Q E h=>?_) (fun _ outer s H vs Q E hr h=>?_)
 ·obtain ⟨A,y,m,a,L,rfl,_⟩:=h;rfl
 ·obtain ⟨A,y,m,a,L,rfl,hy,g,hm,ha,hL,hu,hT,knil,kmin⟩:=h
  have nd:=sc_least_way.nd
  refine ⟨_,pss_cons (ps_set (i:=3) nd rfl (by walk_at "lo") pe_dnewT) (pss_one (ps_ret (pe_minK (js:=[0,2,3]) rfl rfl T.b_min
   (pe_fn F_all_ways (hr.mono (by decide)) rfl (pa_cons (pv 0) (pa_cons (pv 1) (pa_cons (pv 2) pa_nil)))) pe_non LH rfl rfl lam_ok hr.depth (fun i j y h1 h2=>?_) rfl (fun _ _ _ _ _=>rfl)
   (fun _ _ _ _ _ _=>pe_fn F_way_takes (Room.deeper hr.in1 _) rfl (pa_cons (pv 1) (pa_cons (pv 2) (pa_cons (pv 0) (pa_cons (pv 3) pa_nil)))))))),?_⟩
  ·match i with
   | 0=>cases h1;cases h2;rfl
   | 1=>cases h1;cases h2;rfl
   | 2=>cases h1;cases h2;rfl
   | i+3=>cases h1
  ·intro kn hkn
   have s0:Same H (upd H kn (.dT [])):=same_new hkn
   walk_at "rd"
   refine ⟨A,y,m,a,L,rfl,hy.same s0,g,hm,s0 _ _ ha,hL,fun H2 p as s2 hp hp2 hw2=>?_⟩
   have s02:=s0.trans s2
   have hT2:TabL H2 Pt:=hT.same s02
   obtain ⟨psT,hPt2⟩:=hT2.there
   have hkn2:H2 kn=some (.dT (knownD y [])):=s2 _ _ upd_same
   refine ⟨hT2,fun ff c' pm ctv H3 hff hff3 hc3 hT3 k3=>?_⟩
   have kp3:Keep Pt H2 H3:=k3
   have hlst:∀{b:Addr} {xs:List V},H2 b=some (.lst xs)→H3 b=some (.lst xs):=fun q=>kp3 _ _ q (ne_tb q hPt2 (by intro k z;cases z))
   have ms0:MinSt t y A a p kn ff c' Pt as m L (lamObj (cxOf CX0 P w K mg base ["yard","model","lacks","known"] "least_way" (defScope s_least_way) f (.ref c) _ outer s H E).nox _ _ _ pm c' ctv) H 0 H3 :=
    ⟨(hy.same s02).keepT hPt2 kp3,hlst (s02 _ _ ha),hlst hp2,Paired.mapP hw2 fun b l q=>hlst q,⟨[],kp3 _ _ hkn2 (ne_tb hkn2 hPt2 (by intro k z;cases z)),by simp⟩,hff3,hc3,hT3,fun b o e n=>k3 b o (s02 _ _ e) n⟩
   have hlen:=Paired.length hw2
   refine ⟨p,as.map V.ref,_,costAt y m L,ff,c',pm,ctv,.non,rfl,rfl,ms0,fun j H' _ ms=>⟨SqL.of ms.hp,ms.hf,ms.hc⟩,?_,?_,?_⟩
   ·rintro j x H' hx ms
    obtain ⟨b,hb,rfl⟩:=map_get hx
    obtain ⟨wy,hwy,hbw⟩:=paired_get' ms.hw hb
    obtain ⟨l,hl,hll⟩:=ms.kn
    have hwm:=List.mem_of_getElem? hwy
    have hjl:j < (waysOf y m L).length:=(List.getElem?_eq_some_iff.mp hwy).1
    have h512:(waysOf y m L).length≤512:=by
     have h1:=prod_len (fun u=>y.from_ u m) (fun u=>from_len g u m) L
     have h2:(8:Nat)^L.length≤8^3:=Nat.pow_le_pow_right (by decide) hL
     exact Nat.le_trans h1 h2
    walk_at "rd"
    refine ⟨A,y,a,L,b,wy,kn,l,rfl,ms.at_,g,ms.ha,hbw,prod_length hwm,hL,hu,fun k hk=>?_,hl,by omega,fun H4 l' kp hk' hl'=>?_⟩
    ·obtain ⟨i,hi,e⟩:=List.getElem_of_mem hk
     have hlw:=prod_length hwm
     have hz:(L[i]'(by omega),k)∈L.zip wy:=by
      have:(L.zip wy)[i]?=some (L[i]'(by omega),k):=by
       rw [List.getElem?_zip_eq_some]
       exact ⟨List.getElem?_eq_getElem _,by rw [List.getElem?_eq_getElem hi,e]⟩
      exact List.mem_of_getElem? this
     obtain ⟨c,hc,_⟩:=from_mem (prod_mem hwm _ hz)
     exact (List.getElem?_eq_some_iff.mp hc).1
    ·refine ⟨?_,?_⟩
     ·unfold costAt
      rw [List.getD_eq_getElem?_getD,hwy];rfl
     ·have nd4:∀{b':Addr} {o:HO},H' b'=some o→(∀q,o≠.dT q)→H4 b'=some o:=fun q n=>kp _ _ q (ne_dT q hl n)
      obtain ⟨psT',hPt'⟩:=ms.tab.there
      refine ⟨ms.at_.keepD hl kp,nd4 ms.ha (by intro k z;cases z),nd4 ms.hp (by intro k z;cases z),Paired.mapP ms.hw fun b' l' q=>nd4 q (by intro k z;cases z),⟨l',hk',by omega⟩,nd4 ms.hf (by intro k z;cases z),nd4 ms.hc (by intro k z;cases z),ms.tab.keep hl kp,fun b' o e n=>?_⟩
      refine kp _ _ (ms.keep b' o e n) fun z=>?_
      subst z
      rw [hkn] at e
      cases e
   ·intro e
    have:waysOf y m L=[]:=by
     have:as=[]:=by simpa using e
     subst this
     exact List.eq_nil_of_length_eq_zero hlen.symm
    exact knil this H3 ms0.keep hT3
   ·intro i x H' hx hfl ms
    obtain ⟨b,hb,rfl⟩:=map_get hx
    obtain ⟨wy,hwy,hbw⟩:=paired_get' ms.hw hb
    rw [List.length_map,hlen] at hfl
    exact kmin i wy b H' hwy hfl ms.keep ms.tab hbw
end
end Y58
namespace Y58
open PySem PySem.Spec PyProof.Rows L2
theorem sum_perm {l m:List Nat} (h:l.Perm m):Km415.sum l=Km415.sum m:=by
 induction h with
 | nil=>rfl
 | cons x _ ih=>rw [sum_cons,sum_cons,ih]
 | swap x y l=>simp only [sum_cons];omega
 | trans _ _ h1 h2=>exact h1.trans h2
def risen (n:Nat) (w:List (Nat×Nat)):List Nat:=(List.range n).filter fun k=>(carsOf w).contains k
theorem risen_nodup (n:Nat) (w:List (Nat×Nat)):(risen n w).Nodup:=List.Pairwise.filter _ List.nodup_range
theorem mem_risen {n:Nat} {w:List (Nat×Nat)} (h:∀p∈w,p.2 < n) (k:Nat):k∈risen n w↔k∈carsOf w:=by
 unfold risen
 rw [List.mem_filter,List.mem_range,contains_iff]
 constructor
 ·exact fun q=>q.2
 ·intro q
  obtain ⟨p,hp,rfl⟩:=mem_carsOf.mp q
  exact ⟨h p hp,q⟩
theorem risen_perm {n:Nat} {w:List (Nat×Nat)} (h:∀p∈w,p.2 < n):(risen n w).Perm (carsOf w):=(List.perm_ext_iff_of_nodup (risen_nodup n w) (carsOf_nodup w)).mpr fun k=>mem_risen h k
theorem sorted_risen {n:Nat} {w:List (Nat×Nat)} (h:∀p∈w,p.2 < n) {ns:List Int} (hp:ns.Perm ((carsOf w).map fun (k:Nat)=>(k:Int))) (hs:ns.Pairwise (·≤·)):ns=(risen n w).map fun (k:Nat)=>(k:Int):=by
 refine List.Perm.eq_of_pairwise (le:=fun a b:Int=>a≤b) (fun a b _ _ h1 h2=>Int.le_antisymm h1 h2) hs ?_ (hp.trans ((risen_perm h).map _).symm)
 refine List.pairwise_map.mpr ?_
 refine List.Pairwise.imp (fun q=>?_) (List.Pairwise.filter _ List.pairwise_lt_range)
 exact Int.ofNat_le.mpr (Nat.le_of_lt q)
theorem takes_room {y:Km415.Yard} (hs:y.stock.length=30) {k:Nat} {c:Km415.Car} {l:List Nat} (hl:l.length≤y.room.length):(y.takes k c l).room.length+l.length=y.room.length:=by
 have h1:=fold_frees (l.map fun u=>Km415.Part.mk u c.model) y.stock hs (by rw [List.length_map];exact hl)
 have e:(y.takes k c l).stock=(l.map fun u=>Km415.Part.mk u c.model).foldl place1 y.stock:=store_fold _ _ hs (by rw [List.length_map];exact hl)
 show (frees 30 (y.takes k c l).stock).length+_=_
 rw [e]
 have h2:=h1.1
 rw [List.length_map] at h2
 exact h2
def givenN (y:Km415.Yard) (w:List (Nat×Nat)) (ks:List Nat) (i:Nat):Km415.Yard:=(ks.take i).foldl (Yd.give y w) y
theorem give_eq {y:Km415.Yard} {w:List (Nat×Nat)} {k:Nat} {c:Km415.Car} (hc:y.cars[k]?=some c) (z:Km415.Yard):Yd.give y w z k=z.takes k c (Km415.kinds 8 (mustOf y w k)):=by
 unfold Yd.give mustOf
 rw [hc];rfl
theorem give_types (y:Km415.Yard) (w:List (Nat×Nat)):∀(ks:List Nat) (z:Km415.Yard),(ks.foldl (Yd.give y w) z).types=z.types
 | [],_=>rfl
 | k::ks,z=>by
  rw [List.foldl_cons,give_types y w ks]
  unfold Yd.give
  split <;> rfl
theorem give_cars (y:Km415.Yard) (w:List (Nat×Nat)) {j:Nat}:∀(ks:List Nat) (z:Km415.Yard),j ∉ ks→(ks.foldl (Yd.give y w) z).cars[j]?=z.cars[j]?
 | [],_,_=>rfl
 | k::ks,z,h=>by
  rw [List.foldl_cons,give_cars y w ks _ (fun q=>h (List.mem_cons_of_mem _ q))]
  unfold Yd.give
  split
  ·exact takes_cars _ _ _ _ (fun e:j=k=>h (e ▸ List.mem_cons_self))
  ·rfl
theorem take_not {l:List Nat} (hn:l.Nodup) {i k:Nat} (h:l[i]?=some k):k ∉ l.take i:=by
 intro hm
 obtain ⟨j,hj,ej⟩:=List.getElem_of_mem hm
 rw [List.length_take] at hj
 have hj':l[j]?=some k:=by
  rw [List.getElem_take] at ej
  rw [List.getElem?_eq_getElem (by omega),ej]
 have:=nd_ix hn hj' h
 omega
theorem first_gather {y:Km415.Yard} {m b i:Nat} {wy:List Nat} (h:(waysOf y m (y.lacking m b))[i]?=some wy) (hf:FirstLeast (costAt y m (y.lacking m b)) (waysOf y m (y.lacking m b)).length i) :
  y.gather m b=some (y.cost ((y.lacking m b).zip wy),(y.lacking m b).zip wy):=by
 have hw:y.ways m (y.lacking m b)=(waysOf y m (y.lacking m b)).map fun v=>(y.lacking m b).zip v:=ways_eq y m _
 have ci:costAt y m (y.lacking m b) i=((y.cost ((y.lacking m b).zip wy):Nat):Int):=by unfold costAt;rw [List.getD_eq_getElem?_getD,h];rfl
 have key:∀(j:Nat) x,(y.ways m (y.lacking m b))[j]?=some x→j < (waysOf y m (y.lacking m b)).length∧costAt y m (y.lacking m b) j=((y.cost x:Nat):Int):=by
  intro j x hx
  rw [hw] at hx
  obtain ⟨v,hv,rfl⟩:=map_get hx
  exact ⟨(List.getElem?_eq_some_iff.mp hv).1,by unfold costAt;rw [List.getD_eq_getElem?_getD,hv];rfl⟩
 refine gather_first y m b (i:=i) (by rw [hw,List.getElem?_map,h];rfl) (fun j x hx=>?_) fun j x hj hx=>?_
 ·obtain ⟨h1,h2⟩:=key j x hx
  have:=(hf.2 j h1).1
  rw [ci,h2] at this
  omega
 ·obtain ⟨h1,h2⟩:=key j x hx
  have:=(hf.2 j h1).2 hj
  rw [ci,h2] at this
  omega
def owned (A:YA):List Addr:=A.a::A.kl::A.ml::A.cl::A.sl::A.cs
def less (H:Hp) (A:YA):Hp:=fun b=>if b∈owned A then none else H b
theorem less_in {H:Hp} {A:YA} {b:Addr} (h:b∈owned A):less H A b=none:=if_pos h
theorem less_out {H:Hp} {A:YA} {b:Addr} (h:b ∉ owned A):less H A b=H b:=if_neg h
section
variable {t:Adr} {H0 H H':Hp} {A:YA} {y y':Km415.Yard} {sv:List V}
theorem Draft.max (h:Draft t H0 H A y):Draft t (less H A) H A y:=by
 refine ⟨h.at_,fun b o e=>?_,less_in (by simp [owned]),less_in (by simp [owned]),less_in (by simp [owned]),less_in (by simp [owned]),less_in (by simp [owned]),fun b hb=>less_in (by simp [owned,hb]),h.ap⟩
 by_cases q:b∈owned A
 ·rw [less_in q] at e;cases e
 ·rw [less_out q] at e;exact e
theorem Draft.fresh (h:Draft t H0 H A y) {b:Addr} (hb:b∈owned A):H0 b=none:=by
 unfold owned at hb
 simp only [List.mem_cons] at hb
 rcases hb with rfl | rfl | rfl | rfl | rfl | hb
 ·exact h.fa
 ·exact h.fk
 ·exact h.fm
 ·exact h.fc
 ·exact h.fs
 ·exact h.fcs b hb
theorem Draft.back (h:Draft t H0 H A y) (h':Draft t (less H A) H' { A with sv:=sv } y'):Draft t H0 H' { A with sv:=sv } y' :=
 ⟨h'.at_,fun b o e=>h'.same b o (by rw [less_out (fun q=>by rw [h.fresh q] at e;cases e)];exact h.same b o e),h.fa,h.fk,h.fm,h.fc,h.fs,h.fcs,h.ap⟩
theorem Draft.other (h':Draft t (less H A) H' { A with sv:=sv } y') {b:Addr} {o:HO} (e:H b=some o) (n:b ∉ owned A):H' b=some o:=h'.same b o (by rw [less_out n];exact e)
theorem YardAt.notOwn (h:YardAt t H A y) {b:Addr} {o:HO} (e:H b=some o) (n1:∀C d fs,o≠.ins C d fs) (n2:∀xs,o≠.lst xs):b ∉ owned A:=by
 intro hb
 unfold owned at hb
 simp only [List.mem_cons] at hb
 obtain ⟨dy,hy⟩:=h.me
 rcases hb with rfl | rfl | rfl | rfl | rfl | hb
 ·rw [hy] at e;exact n1 _ _ _ (Option.some.inj e).symm
 ·rw [h.kl] at e;exact n2 _ (Option.some.inj e).symm
 ·rw [h.ml] at e;exact n2 _ (Option.some.inj e).symm
 ·rw [h.cl] at e;exact n2 _ (Option.some.inj e).symm
 ·rw [h.sl] at e;exact n2 _ (Option.some.inj e).symm
 ·obtain ⟨i,hi,q⟩:=List.getElem_of_mem hb
  obtain ⟨c,_,⟨d,hd⟩⟩:=paired_get' h.cs (show A.cs[i]?=some b by rw [List.getElem?_eq_getElem hi,q])
  rw [hd] at e;exact n1 _ _ _ (Option.some.inj e).symm
theorem TabL.draft {Pt:Addr} (hT:TabL H Pt) (h:YardAt t H A y) (h':Draft t (less H A) H' { A with sv:=sv } y'):TabL H' Pt:=by
 rcases hT with q | ⟨c',q1,q2⟩
 ·exact .inl (Draft.other h' q (h.notOwn q (by intro C d fs z;cases z) (by intro xs z;cases z)))
 ·exact .inr ⟨c',Draft.other h' q1 (h.notOwn q1 (by intro C d fs z;cases z) (by intro xs z;cases z)),Draft.other h' q2 (h.notOwn q2 (by intro C d fs z;cases z) (by intro xs z;cases z))⟩
theorem Draft.keepT {Pt:Addr} {ps:Array Value} (h:Draft t H0 H A y) (hP:H Pt=some (.tbl ps)) (h0:H0 Pt=none) (kp:Keep Pt H H'):Draft t H0 H' A y :=
 ⟨h.at_.keepT hP kp,fun b o e=>kp b o (h.same b o e) (ne_of_none e h0),h.fa,h.fk,h.fm,h.fc,h.fs,h.fcs,h.ap⟩
end
end Y58
namespace Y58
open PySem PySem.Spec PyProof.Rows L2
abbrev s_why_not_sought:Stmt:=top 47
theorem sc_why_not_sought:FnScope ["yard","m","wanted"] ["yard","m","wanted"] (defScope s_why_not_sought):=by walk_at "sc"
abbrev s_gather_parts:Stmt:=top 126
theorem sc_gather_parts:FnScope ["yard","m","wanted","refusal","lacks","way","must","minutes","k","bits"] ["yard","m","wanted"] (defScope s_gather_parts):=by walk_at "sc"
section
variable {P:Program} {w:World} {K:PySem.W.Frag} {mg:Str→Option Value} {base:Heap} {t:Adr} {f:Addr} {fd:FuncData}
def wantedOk (y:Km415.Yard) (b:Nat):Bool:=!decide (2^y.types.length≤b)&&(decide (1≤(Km415.kinds 8 b).length)&&decide ((Km415.kinds 8 b).length≤3))
theorem dec_ltN (a b:Nat) {x z:Int} (h1:x=(a:Int)) (h2:z=(b:Int)):decide (x < z)=decide (a < b):=by subst h1 h2;exact dec_lt a b
theorem wanted_iff {y:Km415.Yard} (g:Good y) (b:Nat):wantedOk y b=true↔¬ (b=0∨2^y.types.length≤b∨Km415.WANTED < (Km415.kinds Km415.TYPES b).length):=by
 unfold wantedOk
 have hz:b < 2^8→((Km415.kinds 8 b).length=0↔b=0):=fun h8=>by
  constructor
  ·intro h
   have e:=bitsOf_kinds h8
   rw [List.eq_nil_of_length_eq_zero h] at e
   exact e.symm
  ·intro h;subst h;rfl
 simp only [Bool.and_eq_true,Bool.not_eq_true',decide_eq_false_iff_not,decide_eq_true_iff]
 constructor
 ·rintro ⟨h1,h2,h3⟩ (q | q | q)
  ·subst q
   have:(Km415.kinds 8 0).length=0:=rfl
   omega
  ·exact h1 q
  ·have q':3 < (Km415.kinds 8 b).length:=q
   omega
 ·intro h
  have h1:¬ 2^y.types.length≤b:=fun q=>h (.inr (.inl q))
  have h8:b < 2^8:=Nat.lt_of_lt_of_le (Nat.lt_of_not_le h1) (Nat.pow_le_pow_right (by decide) g.tl)
  refine ⟨h1,?_,?_⟩
  ·apply Nat.lt_of_not_le
   intro q
   exact h (.inl ((hz h8).mp (by omega)))
  ·apply Nat.le_of_not_lt
   intro q
   exact h (.inr (.inr q))
def gatherR (y:Km415.Yard) (m b:Nat):Int×Option Km415.Yard:=if y.models.length≤m then (-2,none) else if b=0∨2^y.types.length≤b∨Km415.WANTED < (Km415.kinds Km415.TYPES b).length then (-22,none) else match y.gather m b with
 | none=>(-33,none)
 | some (v,l)=>if y.room.length < y.pieces l then (-28,none) else (((v:Nat):Int),some (y.gathered l))
def soughtR (y:Km415.Yard) (m b:Nat):Int:=if y.models.length≤m then -2 else if b=0∨2^y.types.length≤b∨Km415.WANTED < (Km415.kinds Km415.TYPES b).length then -22 else 0
def sp_why_not_sought (t:Adr):Sp:=fun vs H Q _=>∃A y m b,vs=[.ref A.a,iN m,iN b]∧YardAt t H A y∧Good y∧∀H',Same H H'→Q (.int (soughtR y m b)) H'
theorem ok_why_not_sought (F:Fun K "why_not_sought" "why_not_sought" s_why_not_sought f fd) (T:Txt K mg t) (F_model_is_there:Fd P w K mg base "model_is_there" 1 ["yard","m"] (sp_model_is_there t)) (F_kinds_in:Fd P w K mg base "kinds_in" 1 ["bits"] sp_kinds_in) (F_names_missing_kind:Fd P w K mg base "names_missing_kind" 1 ["yard","bits"] (sp_names_missing_kind t)) :
  FnOk P w K mg base CX0 2 f fd ["yard","m","wanted"] (sp_why_not_sought t):=by
 refine F.ok sc_why_not_sought (fun vs H Q E h=>?_) (fun cdv _ outer s H vs Q E hr h=>?_)
 ·obtain ⟨A,y,m,b,rfl,_⟩:=h;rfl
 ·obtain ⟨A,y,m,b,rfl,hy,g,k⟩:=h
  have nd:=sc_why_not_sought.nd
  unfold soughtR at k
  refine ⟨_,(pss_cons (ps_if (pt_not (pt_val (pe_fn F_model_is_there (hr.mono (by decide)) rfl (pa_cons (pv 0) (pa_cons (pv 1) pa_nil))))) (pss_one (ps_ret (pe_gi rfl T.g_NOT_THERE))) pss_nil) (pss_cons (ps_if (pt_val (pe_fn F_names_missing_kind (hr.mono (by decide)) rfl (pa_cons (pv 0) (pa_cons (pv 2) pa_nil)))) (pss_one (ps_ret (pe_gi rfl T.g_NOT_AS_TOLD))) pss_nil) (pss_cons (ps_if (PW.pt (pw_or (pt_cmpR op_lt (pe_callB (call_lenK K) (by rfl) T.b_len PySem.boot_len (pa_cons (pe_fn F_kinds_in (hr.mono (by decide)) rfl (pa_cons (pv 2) pa_nil)) pa_nil)) pe_int (nomark _)) (pw_or1 (pt_cmpR op_gt (pe_callB (call_lenK K) (by rfl) T.b_len PySem.boot_len (pa_cons (pe_fn F_kinds_in (hr.mono (by decide)) rfl (pa_cons (pv 2) pa_nil)) pa_nil)) (pe_gi rfl T.g_MOST_GATHERED) (nomark _))))) (pss_one (ps_ret (pe_gi rfl T.g_NOT_AS_TOLD))) pss_nil) (pss_one (ps_ret pe_int))))),?_⟩
  walk_at "rd"
  refine ⟨A,y,m,rfl,hy,_,rfl,?_⟩
  by_cases hm:m < y.models.length
  ·rw [decide_eq_true hm]
   rw [if_neg (by omega)] at k
   refine iteF ?_
   walk_at "rd"
   refine ⟨A,y,b,rfl,hy,_,rfl,?_⟩
   by_cases h1:2^y.types.length≤b
   ·rw [decide_eq_true h1]
    rw [if_pos (.inr (.inl h1))] at k
    exact iteT (k H (Same.refl H))
   rw [decide_eq_false h1]
   refine iteF ?_
   have hb8:b < 2^8:=Nat.lt_of_lt_of_le (Nat.lt_of_not_le h1) (Nat.pow_le_pow_right (by decide) g.tl)
   have hw:=wanted_iff g b
   walk_at "rd"
   refine ⟨hb8,fun H1 p s1 hp hl=>?_⟩
   walk_at "rd"
   rw [List.length_map]
   show if decide ((((Km415.kinds 8 b).length:Nat):Int) < (1:Int))=true then _ else _
   rw [show decide ((((Km415.kinds 8 b).length:Nat):Int) < (1:Int))=decide ((Km415.kinds 8 b).length < 1) from dec_ltN _ 1 rfl rfl]
   by_cases h2:(Km415.kinds 8 b).length < 1
   ·rw [decide_eq_true h2]
    have hn:¬ (wantedOk y b=true):=fun q=>by
     unfold wantedOk at q
     simp only [Bool.and_eq_true,Bool.not_eq_true',decide_eq_false_iff_not,decide_eq_true_iff] at q
     omega
    rw [if_pos (Classical.byContradiction fun q=>hn (hw.mpr q))] at k
    exact iteT (iteT (k H1 s1))
   ·rw [decide_eq_false h2]
    refine iteF ?_
    walk_at "rd"
    refine ⟨hb8,fun H2 p2 s2 hp2 hl2=>?_⟩
    have s12:=s1.trans s2
    walk_at "rd"
    rw [List.length_map]
    show if decide ((3:Int) < (((Km415.kinds 8 b).length:Nat):Int))=true then _ else _
    rw [show decide ((3:Int) < (((Km415.kinds 8 b).length:Nat):Int))=decide (3 < (Km415.kinds 8 b).length) from dec_ltN 3 _ rfl rfl]
    by_cases h3:3 < (Km415.kinds 8 b).length
    ·rw [decide_eq_true h3]
     rw [if_pos (.inr (.inr h3))] at k
     exact iteT (k H2 s12)
    ·rw [decide_eq_false h3]
     rw [if_neg (hw.mp (by unfold wantedOk;simp only [Bool.and_eq_true,Bool.not_eq_true',decide_eq_false_iff_not,decide_eq_true_iff];exact ⟨h1,by omega,by omega⟩))] at k
     exact iteF (k H2 s12)
  ·rw [decide_eq_false hm]
   rw [if_pos (by omega)] at k
   exact iteT (k H (Same.refl H))
theorem sought_no {y:Km415.Yard} (g:Good y) {m b:Nat} (h:¬ soughtR y m b < 0):m < y.models.length∧wantedOk y b=true:=by
 unfold soughtR at h
 by_cases hm:y.models.length≤m
 ·rw [if_pos hm] at h;exact absurd (by decide) h
 ·rw [if_neg hm] at h
  refine ⟨by omega,(wanted_iff g b).mpr fun q=>?_⟩
  rw [if_pos q] at h;exact absurd (by decide) h
theorem gather_ref {y:Km415.Yard} {m b:Nat} (h:soughtR y m b < 0):gatherR y m b=(soughtR y m b,none):=by
 unfold soughtR at h
 unfold gatherR soughtR
 by_cases hm:y.models.length≤m
 ·rw [if_pos hm,if_pos hm]
 ·rw [if_neg hm] at h
  rw [if_neg hm,if_neg hm]
  by_cases hb:b=0∨2^y.types.length≤b∨Km415.WANTED < (Km415.kinds Km415.TYPES b).length
  ·rw [if_pos hb,if_pos hb]
  ·rw [if_neg hb] at h;exact absurd h (by decide)
def Chg (t:Adr) (Pt:Addr) (H0:Hp) (A:YA) (Q:VK) (r:Int×Option Km415.Yard):Prop :=
 (∀H',r.2=none→Same H0 H'→TabL H' Pt→Q (.int r.1) H')∧∀H' A' y',r.2=some y'→Draft t H0 H' A' y'→A'.a=A.a→TabL H' Pt→Q (.int r.1) H'
def sp_gather_parts (t:Adr) (Pt:Addr):Sp:=fun vs H Q _=>∃H0 A y m b,vs=[.ref A.a,iN m,iN b]∧Draft t H0 H A y∧Good y∧TabL H Pt∧H0 Pt=none∧Chg t Pt H0 A Q (gatherR y m b)
theorem YardAt.ownThere {H:Hp} {A:YA} {y:Km415.Yard} (h:YardAt t H A y) {b:Addr} (hb:b∈owned A):∃o,H b=some o:=by
 unfold owned at hb
 simp only [List.mem_cons] at hb
 obtain ⟨dy,hy⟩:=h.me
 rcases hb with rfl | rfl | rfl | rfl | rfl | hb
 ·exact ⟨_,hy⟩
 ·exact ⟨_,h.kl⟩
 ·exact ⟨_,h.ml⟩
 ·exact ⟨_,h.cl⟩
 ·exact ⟨_,h.sl⟩
 ·obtain ⟨i,hi,q⟩:=List.getElem_of_mem hb
  obtain ⟨c,_,⟨d,hd⟩⟩:=paired_get' h.cs (show A.cs[i]?=some b by rw [List.getElem?_eq_getElem hi,q])
  exact ⟨_,hd⟩
theorem sum_take_le (f:Nat→Nat) (l:List Nat) (i:Nat):Km415.sum ((l.take i).map f)≤Km415.sum (l.map f):=by
 have e:l.map f=(l.take i).map f++(l.drop i).map f:=by rw [←List.map_append,List.take_append_drop]
 rw [e,sum_append]
 exact Nat.le_add_right _ _
theorem way_car {y:Km415.Yard} (g:Good y) {l:List (Nat×Nat)} (hway:∀q∈l,∃c,y.cars[q.2]?=some c∧c.gone=false∧c.has.testBit q.1=true) {kk:Nat} (hk:kk∈carsOf l) :
  ∃c,y.cars[kk]?=some c∧c.gone=false∧∀u,(mustOf y l kk).testBit u=true→c.has.testBit u=true:=by
 obtain ⟨q,hq,rfl⟩:=mem_carsOf.mp hk
 obtain ⟨c,c1,c2,_⟩:=hway q hq
 refine ⟨c,c1,c2,?_⟩
 have e:mustOf y l q.2=y.closed c 8 (wantOf l q.2):=by unfold mustOf;rw [c1]
 rw [e]
 refine g.closed_sub fun u h=>?_
 unfold wantOf at h
 rw [testBit_bitsOf,contains_iff] at h
 obtain ⟨q',hq',rfl⟩:=List.mem_map.mp h
 have hq2:=List.mem_filter.mp hq'
 obtain ⟨c',hc',_,hb'⟩:=hway q' hq2.1
 have e2:q'.2=q.2:=by simpa using hq2.2
 rw [e2,c1] at hc'
 cases hc'
 exact hb'
theorem ok_gather_parts {Pt:Addr} (F:Fun K "gather_parts" "gather_parts" s_gather_parts f fd) (T:Txt K mg t) (F_why_not_sought:Fd P w K mg base "why_not_sought" 2 ["yard","m","wanted"] (sp_why_not_sought t))
  (F_lacking:Fd P w K mg base "lacking" 3 ["yard","model","wanted"] (sp_lacking t)) (F_least_way:Fd P w K mg base "least_way" 6 ["yard","model","lacks"] (sp_least_way t Pt)) (F_must_by_way:Fd P w K mg base "must_by_way" 2 ["yard","lacks","way"] (sp_must_by_way t))
  (F_free_places:Fd P w K mg base "free_places" 1 ["yard"] (sp_free_places t)) (F_kinds_in:Fd P w K mg base "kinds_in" 1 ["bits"] sp_kinds_in) (F_take_off:Fd P w K mg base "take_off" 3 ["yard","car","bits"] (sp_take_off t)) :
  FnOk P w K mg base CX0 7 f fd ["yard","m","wanted"] (sp_gather_parts t Pt):=by
 refine F.ok sc_gather_parts (fun vs H Q E h=>?_) (fun cdv _ outer s H vs Q E hr h=>?_)
 ·obtain ⟨H0,A,y,m,b,rfl,_⟩:=h;rfl
 ·obtain ⟨H0,A,y,m,b,rfl,hd,g,hT,h0,k⟩:=h
  have nd:=sc_gather_parts.nd
  refine ⟨_,(pss_cons (ps_set (i:=3) nd rfl (by walk_at "lo") (pe_fn F_why_not_sought (hr.mono (by decide)) rfl (pa_cons (pv 0) (pa_cons (pv 1) (pa_cons (pv 2) pa_nil))))) (pss_cons (ps_if (pt_cmpR op_lt (pv 3) pe_int (nomark _)) (pss_one (ps_ret (pv 3))) pss_nil) (pss_cons (ps_set (i:=4) nd rfl (by walk_at "lo") (pe_fn F_lacking (hr.mono (by decide)) rfl (pa_cons (pv 0) (pa_cons (pv 1) (pa_cons (pv 2) pa_nil))))) (pss_cons (ps_set (i:=5) nd rfl (by walk_at "lo") (pe_fn F_least_way (hr.mono (by decide)) rfl (pa_cons (pv 0) (pa_cons (pv 1) (pa_cons (pv 4) pa_nil))))) (pss_cons (ps_if (pt_cmp (pc_isN (pv 5))) (pss_one (ps_ret (pe_gi rfl T.g_NO_WAY))) pss_nil) (pss_cons (ps_set (i:=6) nd rfl (by walk_at "lo") (pe_freeze (pe_fn F_must_by_way (hr.mono (by decide)) rfl (pa_cons (pv 0) (pa_cons (pv 4) (pa_cons (pv 5) pa_nil)))))) (pss_cons (ps_if (pt_cmpR op_lt (pe_fn F_free_places (hr.mono (by decide)) rfl (pa_cons (pv 0) pa_nil)) (pe_callB (cr_sumK K rfl) (by rfl) T.b_sum PyProof.Rows.boot_sum (pa_cons (pe_lc rfl nd (pi_values (pv 6)) (blkOk_by (own:=[("bits",9)]) rfl) (fun _ _ _ _ _=>(pg_name (i:=9) nd rfl (by walk_at "lo"))) (fun _ _ _ _ _=>pts_nil) (fun _ _ _ _ _=>(pe_callB (call_lenK K) (by rfl) T.b_len PySem.boot_len (pa_cons (pe_fn F_kinds_in (hr.mono (by decide)) rfl (pa_cons (pv 9) pa_nil)) pa_nil)))) pa_nil)) (nomark _)) (pss_one (ps_ret (pe_gi rfl T.g_NO_ROOM))) pss_nil) (pss_cons (ps_set (i:=7) nd rfl (by walk_at "lo") pe_int) (pss_cons (ps_for PassesOwn.never rfl (pi_listK K (pe_callB (cr_sortedD rfl) (by rfl) T.b_sorted PyProof.Rows.boot_sorted (pa_cons (pv 6) pa_nil))) (pg_name (i:=8) nd rfl (by walk_at "lo")) (pss_one (ps_aug (i:=7) nd rfl (by walk_at "lo") (pe_fn F_take_off (hr.mono (by decide)) rfl (pa_cons (pv 0) (pa_cons (pe_ix (ix_listK K) (pe_fldK K (pv 0) rfl) (pv 8) (fun _ _=>rfl)) (pa_cons (pe_dget (hu_of hr) (pv 6) (pv 8) (fun _ _=>rfl)) pa_nil)))) ip_add))) (pss_one (ps_ret (pv 7)))))))))))),?_⟩
  walk_at "rd"
  refine ⟨A,y,m,b,rfl,hd.at_,g,fun H1 s1=>?_⟩
  walk_at "rd"
  by_cases hso:soughtR y m b < 0
  ·rw [decide_eq_true hso]
   rw [gather_ref hso] at k
   exact iteT ⟨_,rfl,k.1 H1 rfl (hd.same.trans s1) (hT.same s1)⟩
  ·rw [decide_eq_false hso]
   obtain ⟨hm,hw⟩:=sought_no g hso
   have hso0:soughtR y m b=0:=by
    unfold soughtR
    rw [if_neg (by omega),if_neg ((wanted_iff g b).mp hw)]
   unfold gatherR at k
   rw [if_neg (by omega),if_neg ((wanted_iff g b).mp hw)] at k
   refine iteF ?_
   ·walk_at "rd"
    have hw2:=hw
    unfold wantedOk at hw2
    simp only [Bool.and_eq_true,Bool.not_eq_true',decide_eq_false_iff_not,decide_eq_true_iff] at hw2
    obtain ⟨hb',_,hk3⟩:=hw2
    have hb:b < 2^y.types.length:=Nat.lt_of_not_le hb'
    have hd1:=hd.grow s1
    have hT1:=hT.same s1
    refine ⟨A,y,m,b,rfl,hd1.at_,g,hm,hb,fun H2 p s2 hp hl=>?_⟩
    have hd2:=hd1.grow s2
    have hT2:=hT1.same s2
    obtain ⟨psT,hPt2⟩:=hT2.there
    have hLmem:∀u∈y.lacking m b,u < y.types.length:=fun u hu=>lt_of_testBit hb (mem_kinds.mp (List.mem_filter.mp hu).1).2
    have hL3:(y.lacking m b).length≤3:=Nat.le_trans (List.length_filter_le _ _) hk3
    have htl:=g.tl
    walk_at "rd"
    refine ⟨A,y,m,p,y.lacking m b,rfl,hd2.at_,g,hm,hl,hL3,hLmem,hT2,fun hnil H3 kp hT3=>?_,fun i wy bW H3 hwy hfl kp hT3 hbW=>?_⟩
    ·have hg:y.gather m b=none:=gather_none y m b (by rw [ways_eq];show (waysOf y m (y.lacking m b)).map _=[];rw [hnil];rfl)
     rw [hg] at k
     walk_at "rd"
     exact k.1 H3 rfl (hd2.keepT hPt2 h0 kp).same hT3
    ·have hg:=first_gather hwy hfl
     rw [hg] at k
     have hwm:=List.mem_of_getElem? hwy
     have hwl:=prod_length hwm
     have hd3:=hd2.keepT hPt2 h0 kp
     have hl3:H3 p=some (.lst ((y.lacking m b).map iN)):=kp _ _ hl (ne_tb hl hPt2 (by intro k z;cases z))
     generalize hLe:y.lacking m b=L at *
     have hway:∀q∈L.zip wy,∃c,y.cars[q.2]?=some c∧c.gone=false∧c.has.testBit q.1=true:=fun q hq=>by
      obtain ⟨c,c1,c2,_,c4,_⟩:=from_mem (prod_mem hwm q hq)
      exact ⟨c,c1,c2,c4⟩
     have hcw:∀q∈L.zip wy,q.2 < y.cars.length:=fun q hq=>by
      obtain ⟨c,c1,_⟩:=hway q hq
      exact (List.getElem?_eq_some_iff.mp c1).1
     have hcs:∀kk∈wy,kk < y.cars.length:=fun kk hk=>by
      obtain ⟨i,hi,e⟩:=List.getElem_of_mem hk
      have hz:(L[i]'(by omega),kk)∈L.zip wy:=by
       have:(L.zip wy)[i]?=some (L[i]'(by omega),kk):=by
        rw [List.getElem?_zip_eq_some]
        exact ⟨List.getElem?_eq_getElem _,by rw [List.getElem?_eq_getElem hi,e]⟩
       exact List.mem_of_getElem? this
      exact hcw _ hz
     walk_at "rd"
     refine ⟨A,y,p,L,bW,wy,rfl,hd3.at_,g,hl3,hbW,hwl,hL3,fun u hu=>by have:=hLmem u hu;omega,hcs,fun H4 d s4 hdd hd4=>?_⟩
     refine ⟨d,_,rfl,hd4,trivial,fun od=>?_⟩
     have s5:Same H3 (upd H4 d (.frz od (.dK (mustD y (L.zip wy))))):=same_upd s4 hdd
     have hfz:(upd H4 d (.frz od (.dK (mustD y (L.zip wy))))) d=some (.frz od (.dK (mustD y (L.zip wy)))):=upd_same
     generalize upd H4 d (.frz od (.dK (mustD y (L.zip wy))))=H5 at s5 hfz
     have hd5:=hd3.grow s5
     have hT5:=TabL.same hT3 s5
     have hpc:y.pieces (L.zip wy)=Km415.sum ((carsOf (L.zip wy)).map fun kk=>(Km415.kinds 8 (mustOf y (L.zip wy) kk)).length):=by
      rw [pieces_eq y _ hcw]
      congr 1
      apply List.map_congr_left
      intro kk hk
      obtain ⟨q,hq,rfl⟩:=mem_carsOf.mp hk
      obtain ⟨c,c1,_⟩:=hway q hq
      unfold Yd.np mustOf
      rw [c1];rfl
     have hmlt:∀kk∈carsOf (L.zip wy),mustOf y (L.zip wy) kk < 2^y.types.length:=fun kk hk=>by
      obtain ⟨q,hq,rfl⟩:=mem_carsOf.mp hk
      obtain ⟨c,c1,_⟩:=hway q hq
      have e:mustOf y (L.zip wy) q.2=y.closed c 8 (wantOf (L.zip wy) q.2):=by unfold mustOf;rw [c1]
      rw [e]
      exact g.closed_lt c1 (wantOf_lt fun q' hq'=>hLmem _ (List.of_mem_zip hq').1)
     have hclen:(carsOf (L.zip wy)).length≤3:=by
      have h1:=carsOf_len (L.zip wy)
      rw [List.length_zip] at h1
      omega
     have hmdl:(mustD y (L.zip wy)).length=(carsOf (L.zip wy)).length:=by unfold mustD dictOfN;rw [List.length_map]
     walk_at "rd"
     refine ⟨A,y,rfl,hd5.at_,g,?_⟩
     refine ⟨_,rfl,d,od,_,rfl,hfz,fun D hD=>?_⟩
     refine lc_it (n:=(carsOf (L.zip wy)).length) (fun i H'=>Same H5 H'∧H' D=some (.lst (((carsOf (L.zip wy)).take i).map fun kk=>iN (Km415.kinds 8 (mustOf y (L.zip wy) kk)).length))) ⟨same_new hD,upd_same⟩ ?_ ?_ ?_ ?_
     ·rintro i H' hi ⟨s6,_⟩
      exact ⟨s6 _ _ hfz,by rw [hmdl];exact hi⟩
     ·rintro H' ⟨s6,_⟩
      exact ⟨s6 _ _ hfz,by rw [hmdl];exact Nat.le_refl _⟩
     ·rintro i x H' H7 hi ⟨s6,hD6⟩ ⟨rfl,kk0,hkv⟩
      obtain ⟨kk,hkk,e⟩:=map_get (show ((carsOf (L.zip wy)).map fun (k:Nat)=>((Sum.inl (k:Int):Key),iN (mustOf y (L.zip wy) k)))[i]?=some (kk0,x) from hkv)
      cases e
      have hkm:=List.mem_of_getElem? hkk
      refine ⟨rfl,?_⟩
      walk_at "rd"
      refine ⟨Nat.lt_of_lt_of_le (hmlt kk hkm) (Nat.pow_le_pow_right (by decide) g.tl),fun H8 q s8 hq hlq=>?_⟩
      refine rd_len hlq ?_
      refine ⟨_,s8 _ _ hD6,small ?_,same_upd (s6.trans s8) hD,?_⟩
      ·rw [List.length_map,List.length_take];omega
      ·rw [upd_same,take_snoc hkk,List.map_append,List.length_map];rfl
     ·rintro H6 ⟨s6,hD6⟩
      rw [List.take_length] at hD6
      refine ⟨D,((carsOf (L.zip wy)).map fun kk=>(Km415.kinds 8 (mustOf y (L.zip wy) kk)).length).map fun (n:Nat)=>(n:Int),rfl,SqL.of (by rw [hD6,List.map_map,List.map_map];rfl),?_⟩
      rw [sum_int,←hpc]
      refine ⟨_,_,rfl,rfl,_,rfl,?_⟩
      show if decide (((y.room.length:Nat):Int) < ((y.pieces (L.zip wy):Nat):Int))=true then _ else _
      rw [dec_lt]
      have hd6:=hd5.grow s6
      have hT6:=TabL.same hT5 s6
      have k':Chg t Pt H0 A Q (if y.room.length < y.pieces (L.zip wy) then (-28,none) else (((y.cost (L.zip wy):Nat):Int),some (y.gathered (L.zip wy)))):=k
      by_cases hroom:y.room.length < y.pieces (L.zip wy)
      ·rw [decide_eq_true hroom]
       rw [if_pos hroom] at k'
       refine iteT ?_
       exact k'.1 H6 rfl hd6.same hT6
      ·rw [decide_eq_false hroom]
       rw [if_neg hroom] at k'
       refine iteF ?_
       have hkeys:(mustD y (L.zip wy)).map (·.1)=((carsOf (L.zip wy)).map fun (k:Nat)=>(k:Int)).map Sum.inl:=by
        unfold mustD dictOfN
        rw [List.map_map,List.map_map];rfl
       refine ⟨_,rfl,d,mustD y (L.zip wy),_,rfl,.inr ⟨od,s6 _ _ hfz⟩,hkeys,by rw [List.length_map];omega,fun ns ps hperm hsort hps=>?_⟩
       have hns:=sorted_risen hcw hperm hsort
       subst hns
       rw [←iN_int]
       have hRn:=risen_nodup y.cars.length (L.zip wy)
       have hRm:∀kk,kk∈risen y.cars.length (L.zip wy)→kk∈carsOf (L.zip wy):=fun kk h=>(mem_risen hcw kk).mp h
       have hRs:Km415.sum ((risen y.cars.length (L.zip wy)).map (Yd.np y (L.zip wy)))=y.pieces (L.zip wy):=by rw [pieces_eq y _ hcw];exact sum_perm ((risen_perm hcw).map _)
       have hRc:Km415.sum ((risen y.cars.length (L.zip wy)).map (Yd.tk y (L.zip wy)))=y.cost (L.zip wy):=by rw [cost_eq y _ hcw];exact sum_perm ((risen_perm hcw).map _)
       have hRg:givenN y (L.zip wy) (risen y.cars.length (L.zip wy)) (risen y.cars.length (L.zip wy)).length=y.gathered (L.zip wy):=by rw [gathered_eq];unfold givenN;rw [List.take_length];rfl
       clear hperm hsort
       have hown:∀q,H6 q=none→q ∉ owned A:=fun q hq hm=>by obtain ⟨o,ho⟩:=hd6.at_.ownThere hm;rw [hq] at ho;cases ho
       revert hRn hRm hRs hRc hRg
       generalize risen y.cars.length (L.zip wy)=R
       intro hRn hRm hRs hRc hRg
       refine ⟨ps,rfl,⟨_,SqL.of upd_same⟩,?_⟩
       refine for_list (K:=K) (a:=ps) (xs:=R.map iN) (fun i σ H'=>H' ps=some (.lst (R.map iN))∧H' d=some (.frz od (.dK (mustD y (L.zip wy))))∧TabL H' Pt∧(givenN y (L.zip wy) R i).room.length+Km415.sum ((R.take i).map (Yd.np y (L.zip wy)))=y.room.length ∧
         ∃sv v7,Draft t H0 H' { A with sv:=sv } (givenN y (L.zip wy) R i)∧σ=[some (.ref A.a),some (iN m),some (iN b),some (.int (soughtR y m b)),some (.ref p),some (.ref bW),some (.ref d),some (iN (Km415.sum ((R.take i).map (Yd.tk y (L.zip wy))))),v7,none])
        ⟨upd_same,same_new hps _ _ (s6 _ _ hfz),TabL.same hT6 (same_new hps),rfl,A.sv,none,hd6.grow (same_new hps),rfl⟩ (fun i σ H' _ q=>SqL.of q.1) ?_ ?_
       ·rintro i x σ H' hx ⟨hl',hf',hT',hro,sv,v7,hd',rfl⟩
        obtain ⟨kk,hkk,rfl⟩:=map_get hx
        have hkm:=hRm kk (List.mem_of_getElem? hkk)
        obtain ⟨c,hc,hgone,hsubc⟩:=way_car g hway hkm
        have hcz:(givenN y (L.zip wy) R i).cars[kk]?=some c:=(give_cars y (L.zip wy) _ y (take_not hRn hkk)).trans hc
        have gz:Good (givenN y (L.zip wy) R i):=Good.give g _ hway _ y (List.Sublist.nodup (List.take_sublist _ _) hRn) (fun k hk=>hRm k (List.mem_of_mem_take hk)) g rfl (fun _ _=>rfl)
        have hnp:Yd.np y (L.zip wy) kk=(Km415.kinds 8 (mustOf y (L.zip wy) kk)).length:=by unfold Yd.np mustOf;rw [hc];rfl
        have hsnp:Km415.sum ((R.take (i+1)).map (Yd.np y (L.zip wy)))=Km415.sum ((R.take i).map (Yd.np y (L.zip wy)))+(Km415.kinds 8 (mustOf y (L.zip wy) kk)).length:=by
         rw [take_snoc hkk,List.map_append,sum_append,List.map_cons,List.map_nil,sum_cons,sum_nil,Nat.add_zero,hnp]
        have hle:Km415.sum ((R.take (i+1)).map (Yd.np y (L.zip wy)))≤y.pieces (L.zip wy):=by
         rw [←hRs]
         exact sum_take_le _ _ _
        have hfit:(Km415.kinds 8 (mustOf y (L.zip wy) kk)).length≤(givenN y (L.zip wy) R i).room.length:=by omega
        obtain ⟨bc,dc,hb1,hb2,hcb⟩:=hd'.at_.car hcz
        obtain ⟨dy,hme⟩:=hd'.at_.me
        have hme':H' A.a=some (.ins t.cYard dy (yardF { A with sv:=sv } (givenN y (L.zip wy) R i))):=hme
        have hcl:=hd'.at_.cl
        have em:(givenN y (L.zip wy) R i).minutesOf=y.minutesOf:=by
         have ht:(givenN y (L.zip wy) R i).types=y.types:=give_types y (L.zip wy) _ y
         funext u;unfold Km415.Yard.minutesOf;rw [ht]
        have htk:Yd.tk y (L.zip wy) kk=Km415.sum ((Km415.kinds 8 (mustOf y (L.zip wy) kk)).map y.minutesOf):=by unfold Yd.tk mustOf;rw [hc];rfl
        have hstk:Km415.sum ((R.take (i+1)).map (Yd.tk y (L.zip wy)))=Km415.sum ((R.take i).map (Yd.tk y (L.zip wy)))+Km415.sum ((Km415.kinds 8 (mustOf y (L.zip wy) kk)).map y.minutesOf):=by
         rw [take_snoc hkk,List.map_append,sum_append,List.map_cons,List.map_nil,sum_cons,sum_nil,Nat.add_zero,htk]
        have hstep:givenN y (L.zip wy) R (i+1)=(givenN y (L.zip wy) R i).takes kk c (Km415.kinds 8 (mustOf y (L.zip wy) kk)):=by
         unfold givenN
         rw [take_snoc hkk,List.foldl_append]
         exact give_eq hc _
        walk_at "rd"
        refine ⟨d,iN (mustOf y (L.zip wy) kk),rfl,.inl ⟨mustD y (L.zip wy),Sum.inl (kk:Int),.inr ⟨od,hf'⟩,rfl,by unfold mustD;rw [valV_dictOfN,if_pos hkm]⟩,?_⟩
        refine ⟨less H' { A with sv:=sv },{ A with sv:=sv },givenN y (L.zip wy) R i,kk,bc,c,mustOf y (L.zip wy) kk,rfl,hd'.max,gz,hb1,hcz,hgone,hsubc,hfit,fun H8 sv8 hd8=>?_⟩
        have hd9:=Draft.back hd' hd8
        refine ⟨_,_,rfl,rfl,Draft.other hd8 hl' (hown ps hps),Draft.other hd8 hf' (hd'.at_.notOwn hf' (by intro C d fs z;cases z) (by intro xs z;cases z)),TabL.draft hT' hd'.at_ hd8,?_,sv8,some (iN kk),?_,?_⟩
        ·rw [hstep]
         have:=takes_room gz.sl (k:=kk) (c:=c) hfit
         omega
        ·rw [hstep];exact hd9
        ·rw [hstk,em];rfl
       ·rintro σ H' ⟨hl',hf',hT',hro,sv,v7,hd',rfl⟩
        rw [List.length_map] at hd'
        rw [List.length_map,List.take_length,hRc]
        rw [hRg] at hd'
        exact ⟨_,rfl,k'.2 H' _ _ rfl hd' rfl hT'⟩
end
end Y58
namespace Y58
open PySem PySem.Spec PyProof.Rows L2
abbrev s_drain_car:Stmt:=top 122
theorem sc_drain_car:FnScope ["yard","k","car","litres"] ["yard","k"] (defScope s_drain_car):=by walk_at "sc"
abbrev s_cart_scrap:Stmt:=top 129
theorem sc_cart_scrap:FnScope ["yard","price","earned"] ["yard","price"] (defScope s_cart_scrap):=by walk_at "sc"
abbrev s_pump_out:Stmt:=top 130
theorem sc_pump_out:FnScope ["yard","n","price"] ["yard","n","price"] (defScope s_pump_out):=by walk_at "sc"
abbrev s_crush_car:Stmt:=top 128
theorem sc_crush_car:FnScope ["yard","k","car","kg"] ["yard","k"] (defScope s_crush_car):=by walk_at "sc"
section
variable {P:Program} {w:World} {K:PySem.W.Frag} {mg:Str→Option Value} {base:Heap} {t:Adr} {f:Addr} {fd:FuncData}
def ChgS (t:Adr) (H0 H:Hp) (A:YA) (Q:VK) (r:Int×Option Km415.Yard):Prop :=
 (∀H',r.2=none→Same H H'→Q (.int r.1) H')∧∀H' A' y',r.2=some y'→Draft t H0 H' A' y'→A'.a=A.a→Q (.int r.1) H'
def sp_chg1 (t:Adr) (R:Km415.Yard→Nat→Int×Option Km415.Yard):Sp:=fun vs H Q _=>∃H0 A y k,vs=[.ref A.a,iN k]∧Draft t H0 H A y∧Good y∧ChgS t H0 H A Q (R y k)
def sp_chg2 (t:Adr) (R:Km415.Yard→Nat→Nat→Int×Option Km415.Yard):Sp:=fun vs H Q _=>∃H0 A y j k,vs=[.ref A.a,iN j,iN k]∧Draft t H0 H A y∧Good y∧ChgS t H0 H A Q (R y j k)
def drainR (y:Km415.Yard) (k:Nat):Int×Option Km415.Yard:=match y.live k with
 | none=>(-2,none)
 | some c=>if c.litres=0 then (-17,none) else if 300 < y.tank+c.litres then (-62,none) else (((c.litres:Nat):Int),some { y with cars:=y.cars.set k { c with litres:=0 },tank:=y.tank+c.litres })
theorem live_get {y:Km415.Yard} {k:Nat} {c:Km415.Car} (h:y.live k=some c):y.cars[k]?=some c∧c.gone=false:=by
 unfold Km415.Yard.live at h
 split at h
 ·rename_i c' e
  by_cases q:c'.gone=true
  ·rw [if_pos q] at h;cases h
  ·rw [if_neg q] at h
   cases h
   exact ⟨e,by simpa using q⟩
 ·cases h
theorem ok_drain_car (F:Fun K "drain_car" "drain_car" s_drain_car f fd) (T:Txt K mg t) (F_car_is_there:Fd P w K mg base "car_is_there" 1 ["yard","k"] (sp_car_is_there t)) (F_is_dry:Fd P w K mg base "is_dry" 1 ["car"] (sp_is_dry t)) :
  FnOk P w K mg base CX0 2 f fd ["yard","k"] (sp_chg1 t drainR):=by
 refine F.ok sc_drain_car (fun vs H Q E h=>?_) (fun cdv _ outer s H vs Q E hr h=>?_)
 ·obtain ⟨H0,A,y,k,rfl,_⟩:=h;rfl
 ·obtain ⟨H0,A,y,k,rfl,hd,g,kk⟩:=h
  have nd:=sc_drain_car.nd
  refine ⟨_,(pss_cons (ps_if (pt_not (pt_val (pe_fn F_car_is_there (hr.mono (by decide)) rfl (pa_cons (pv 0) (pa_cons (pv 1) pa_nil))))) (pss_one (ps_ret (pe_gi rfl T.g_NOT_THERE))) pss_nil) (pss_cons (ps_set (i:=2) nd rfl (by walk_at "lo") (pe_ix (ix_listK K) (pe_fldK K (pv 0) rfl) (pv 1) (fun _ _=>rfl))) (pss_cons (ps_set (i:=3) nd rfl (by walk_at "lo") (pe_fldK K (pv 2) rfl)) (pss_cons (ps_if (pt_val (pe_fn F_is_dry (hr.mono (by decide)) rfl (pa_cons (pv 2) pa_nil))) (pss_one (ps_ret (pe_gi rfl T.g_DRY_ALREADY))) pss_nil) (pss_cons (ps_if (pt_cmpR op_gt (pe_op op_add (pe_fldK K (pv 0) rfl) (pv 3)) (pe_gi rfl T.g_MOST_TANK_LITRES) (nomark _)) (pss_one (ps_ret (pe_gi rfl T.g_TANK_WOULD_SPILL))) pss_nil) (pss_cons (ps_fldaugK K (pv 0) (pv 3) in_add) (pss_cons (ps_fldK K (pv 2) pe_int rfl) (pss_one (ps_ret (pv 3)))))))))),?_⟩
  walk_at "rd"
  refine ⟨A,y,k,rfl,hd.at_,?_⟩
  unfold drainR at kk
  cases hlv:y.live k with
  | none =>
   rw [hlv] at kk
   refine ⟨_,rfl,iteT ?_⟩
   exact kk.1 H rfl (Same.refl H)
  | some c =>
   rw [hlv] at kk
   obtain ⟨hc,hgone⟩:=live_get hlv
   obtain ⟨b,dc,hb,hbr,hcb⟩:=hd.at_.car hc
   obtain ⟨dy,hme⟩:=hd.at_.me
   have hcl:=hd.at_.cl
   refine ⟨_,rfl,iteF ?_⟩
   walk_at "rd"
   refine ⟨b,dc,c,rfl,hcb,_,rfl,?_⟩
   by_cases hl:c.litres=0
   ·rw [decide_eq_true hl]
    have kk':ChgS t H0 H A Q (-17,none):=by simpa only [hl,if_true] using kk
    refine iteT ?_
    exact kk'.1 H rfl (Same.refl H)
   ·rw [decide_eq_false hl]
    have kk2:ChgS t H0 H A Q (if 300 < y.tank+c.litres then (-62,none) else (((c.litres:Nat):Int),some { y with cars:=y.cars.set k { c with litres:=0 },tank:=y.tank+c.litres })):=by
     have:=kk
     simp only [] at this
     rw [if_neg hl] at this
     exact this
    refine iteF ?_
    walk_at "rd"
    show if decide ((300:Int) < (y.tank:Int)+(c.litres:Int))=true then _ else _
    rw [show decide ((300:Int) < (y.tank:Int)+(c.litres:Int))=decide (300 < y.tank+c.litres) by rw [Bool.eq_iff_iff,decide_eq_true_iff,decide_eq_true_iff];omega]
    by_cases ht:300 < y.tank+c.litres
    ·rw [decide_eq_true ht]
     rw [if_pos ht] at kk2
     refine iteT ?_
     exact kk2.1 H rfl (Same.refl H)
    ·rw [decide_eq_false ht]
     rw [if_neg ht] at kk2
     refine iteF ?_
     walk_at "rd"
     refine rd_aug hme T.cl_Yard T.n_Yard_tank rfl ?_
     walk_at "rd"
     refine rd_put hme (by show 12 < 1000;decide) (show putF "tank" (V.int ((y.tank:Int)+(c.litres:Int))) (yardF A y)=yardF A { y with tank:=y.tank+c.litres } by rw [←Int.natCast_add];rfl) ?_
     generalize hH1:upd H A.a (HO.ins t.cYard dy (yardF A { y with tank:=y.tank+c.litres }))=H1
     have hd1:Draft t H0 H1 A { y with tank:=y.tank+c.litres }:=hd.setMe rfl rfl rfl rfl ⟨dy,by rw [←hH1];exact upd_same⟩ (by rw [←hH1];exact Keep.upd _ _ _)
     have hcb1:H1 b=some (.ins t.cCar dc (carF c)):=by rw [←hH1,upd_ne (ne_fs hcb hme (by show 5≠12;decide))];exact hcb
     walk_at "rd"
     refine rd_set hcb1 T.cl_Car T.n_Car_litres (by show 5 < 1000;decide) (show putF "litres" (V.int 0) (carF c)=carF { c with litres:=0 } from rfl) ?_
     exact ⟨_,rfl,kk2.2 _ A _ rfl (hd1.setCar hb ⟨dc,upd_same⟩ (Keep.upd _ _ _)) rfl⟩
def cartR (y:Km415.Yard) (p:Nat):Int×Option Km415.Yard:=if 1000 < p then (-22,none) else if y.scrap=0 then (-6,none) else (((y.scrap * p / 1000:Nat):Int),some { y with scrap:=0,sold:=y.sold+y.scrap,earned:=y.earned+y.scrap * p / 1000 })
theorem ok_cart_scrap (F:Fun K "cart_scrap" "cart_scrap" s_cart_scrap f fd) (T:Txt K mg t):FnOk P w K mg base CX0 1 f fd ["yard","price"] (sp_chg1 t cartR):=by
 refine F.ok sc_cart_scrap (fun vs H Q E h=>?_) (fun cdv _ outer s H vs Q E hr h=>?_)
 ·obtain ⟨H0,A,y,k,rfl,_⟩:=h;rfl
 ·obtain ⟨H0,A,y,p,rfl,hd,g,kk⟩:=h
  have nd:=sc_cart_scrap.nd
  obtain ⟨dy,hme⟩:=hd.at_.me
  unfold cartR at kk
  refine ⟨_,(pss_cons (ps_if (pt_cmpR op_gt (pv 1) (pe_gi rfl T.g_MOST_TONNE_PRICE) (nomark _)) (pss_one (ps_ret (pe_gi rfl T.g_NOT_AS_TOLD))) pss_nil) (pss_cons (ps_if (pt_cmpR op_eq (pe_fldK K (pv 0) rfl) pe_int (nomark _)) (pss_one (ps_ret (pe_gi rfl T.g_NOT_HAD))) pss_nil) (pss_cons (ps_set (i:=2) nd rfl (by walk_at "lo") (pe_op op_fdiv (pe_op op_mul (pe_fldK K (pv 0) rfl) (pv 1)) (pe_gi rfl T.g_KG_OF_TONNE))) (pss_cons (ps_fldaugK K (pv 0) (pe_fldK K (pv 0) rfl) in_add) (pss_cons (ps_fldK K (pv 0) pe_int rfl) (pss_cons (ps_fldaugK K (pv 0) (pv 2) in_add) (pss_one (ps_ret (pv 2))))))))),?_⟩
  walk_at "rd"
  show if decide ((1000:Int) < (p:Int))=true then _ else _
  rw [show decide ((1000:Int) < (p:Int))=decide (1000 < p) from dec_ltN 1000 p rfl rfl]
  by_cases h1:1000 < p
  ·rw [decide_eq_true h1]
   rw [if_pos h1] at kk
   exact iteT (kk.1 H rfl (Same.refl H))
  ·rw [decide_eq_false h1]
   rw [if_neg h1] at kk
   refine iteF ?_
   walk_at "rd"
   show if decide (V.int ((y.scrap:Nat):Int)=V.int ((0:Nat):Int))=true then _ else _
   rw [dec_nat]
   by_cases h2:y.scrap=0
   ·rw [decide_eq_true h2]
    rw [if_pos h2] at kk
    exact iteT (kk.1 H rfl (Same.refl H))
   ·rw [decide_eq_false h2]
    rw [if_neg h2] at kk
    refine iteF ?_
    walk_at "rd"
    refine ⟨.inr ⟨by omega,by omega⟩,?_⟩
    walk_at "rd"
    refine ⟨⟨by decide,by decide⟩,?_⟩
    have e1:((y.scrap:Nat):Int) * ((p:Nat):Int) / 1000=((y.scrap * p / 1000:Nat):Int):=by rw [Int.natCast_ediv,Int.natCast_mul];rfl
    show gName 2 (V.int (((y.scrap:Nat):Int) * ((p:Nat):Int) / 1000)) _ _ _
    rw [e1]
    walk_at "rd"
    refine rd_aug hme T.cl_Yard T.n_Yard_sold_kg rfl ?_
    walk_at "rd"
    refine rd_put hme (by show 12 < 1000;decide) (show putF "sold_kg" (V.int ((y.sold:Int)+(y.scrap:Int))) (yardF A y)=yardF A { y with sold:=y.sold+y.scrap } by rw [←Int.natCast_add];rfl) ?_
    generalize hH1:upd H A.a (HO.ins t.cYard dy (yardF A { y with sold:=y.sold+y.scrap }))=H1
    have hm1:H1 A.a=some (HO.ins t.cYard dy (yardF A { y with sold:=y.sold+y.scrap })):=by rw [←hH1];exact upd_same
    have hd1:Draft t H0 H1 A { y with sold:=y.sold+y.scrap }:=hd.setMe rfl rfl rfl rfl ⟨dy,hm1⟩ (by rw [←hH1];exact Keep.upd _ _ _)
    walk_at "rd"
    refine rd_set hm1 T.cl_Yard T.n_Yard_scrap (by show 12 < 1000;decide) (show putF "scrap" (V.int 0) (yardF A { y with sold:=y.sold+y.scrap })=yardF A { y with sold:=y.sold+y.scrap,scrap:=0 } from rfl) ?_
    generalize hH2:upd H1 A.a (HO.ins t.cYard dy (yardF A { y with sold:=y.sold+y.scrap,scrap:=0 }))=H2
    have hm2:H2 A.a=some (HO.ins t.cYard dy (yardF A { y with sold:=y.sold+y.scrap,scrap:=0 })):=by rw [←hH2];exact upd_same
    have hd2:Draft t H0 H2 A { y with sold:=y.sold+y.scrap,scrap:=0 }:=hd1.setMe rfl rfl rfl rfl ⟨dy,hm2⟩ (by rw [←hH2];exact Keep.upd _ _ _)
    walk_at "rd"
    refine rd_aug hm2 T.cl_Yard T.n_Yard_earned rfl ?_
    walk_at "rd"
    refine rd_put hm2 (by show 12 < 1000;decide) (show putF "earned" (V.int ((y.earned:Int)+((y.scrap * p / 1000:Nat):Int))) (yardF A { y with sold:=y.sold+y.scrap,scrap:=0 })=yardF A { y with sold:=y.sold+y.scrap,scrap:=0,earned:=y.earned+y.scrap * p / 1000 } by rw [←Int.natCast_add];rfl) ?_
    exact ⟨_,rfl,kk.2 _ A _ rfl (hd2.setMe rfl rfl rfl rfl ⟨dy,upd_same⟩ (Keep.upd _ _ _)) rfl⟩
def pumpR (y:Km415.Yard) (n p:Nat):Int×Option Km415.Yard:=if n=0∨100 < p then (-22,none) else if y.tank < n then (-12,none) else (((y.tank - n:Nat):Int),some { y with tank:=y.tank - n,drunk:=y.drunk+n,earned:=y.earned+n * p })
theorem ok_pump_out (F:Fun K "pump_out" "pump_out" s_pump_out f fd) (T:Txt K mg t):FnOk P w K mg base CX0 1 f fd ["yard","n","price"] (sp_chg2 t pumpR):=by
 refine F.ok sc_pump_out (fun vs H Q E h=>?_) (fun cdv _ outer s H vs Q E hr h=>?_)
 ·obtain ⟨H0,A,y,j,k,rfl,_⟩:=h;rfl
 ·obtain ⟨H0,A,y,n,p,rfl,hd,g,kk⟩:=h
  have nd:=sc_pump_out.nd
  obtain ⟨dy,hme⟩:=hd.at_.me
  unfold pumpR at kk
  refine ⟨_,(pss_cons (ps_if (PW.pt (pw_or (pt_cmpR op_eq (pv 1) pe_int (nomark _)) (pw_or1 (pt_cmpR op_gt (pv 2) (pe_gi rfl T.g_MOST_LITRE_PRICE) (nomark _))))) (pss_one (ps_ret (pe_gi rfl T.g_NOT_AS_TOLD))) pss_nil) (pss_cons (ps_if (pt_cmpR op_lt (pe_fldK K (pv 0) rfl) (pv 1) (nomark _)) (pss_one (ps_ret (pe_gi rfl T.g_TANK_HAS_LESS))) pss_nil) (pss_cons (ps_fldaugK K (pv 0) (pv 1) in_sub) (pss_cons (ps_fldaugK K (pv 0) (pv 1) in_add) (pss_cons (ps_fldaugK K (pv 0) (pe_op op_mul (pv 1) (pv 2)) in_add) (pss_one (ps_ret (pe_fldK K (pv 0) rfl)))))))),?_⟩
  walk_at "rd"
  show if decide (V.int ((n:Nat):Int)=V.int ((0:Nat):Int))=true then _ else _
  rw [dec_nat]
  by_cases h1:n=0
  ·rw [decide_eq_true h1]
   rw [if_pos (.inl h1)] at kk
   exact iteT (iteT (kk.1 H rfl (Same.refl H)))
  ·rw [decide_eq_false h1]
   refine iteF ?_
   walk_at "rd"
   show if decide ((100:Int) < (p:Int))=true then _ else _
   rw [show decide ((100:Int) < (p:Int))=decide (100 < p) from dec_ltN 100 p rfl rfl]
   by_cases h2:100 < p
   ·rw [decide_eq_true h2]
    rw [if_pos (.inr h2)] at kk
    exact iteT (kk.1 H rfl (Same.refl H))
   ·rw [decide_eq_false h2]
    rw [if_neg (by rintro (q | q);exact h1 q;exact h2 q)] at kk
    refine iteF ?_
    walk_at "rd"
    show if decide (((y.tank:Nat):Int) < (n:Int))=true then _ else _
    rw [dec_lt]
    by_cases h3:y.tank < n
    ·rw [decide_eq_true h3]
     rw [if_pos h3] at kk
     exact iteT (kk.1 H rfl (Same.refl H))
    ·rw [decide_eq_false h3]
     rw [if_neg h3] at kk
     refine iteF ?_
     walk_at "rd"
     refine rd_aug hme T.cl_Yard T.n_Yard_tank rfl ?_
     walk_at "rd"
     refine rd_put hme (by show 12 < 1000;decide) (show putF "tank" (V.int ((y.tank:Int) - (n:Int))) (yardF A y)=yardF A { y with tank:=y.tank - n } by rw [show (y.tank:Int) - (n:Int)=((y.tank - n:Nat):Int) by omega];rfl) ?_
     generalize hH1:upd H A.a (HO.ins t.cYard dy (yardF A { y with tank:=y.tank - n }))=H1
     have hm1:H1 A.a=some (HO.ins t.cYard dy (yardF A { y with tank:=y.tank - n })):=by rw [←hH1];exact upd_same
     have hd1:Draft t H0 H1 A { y with tank:=y.tank - n }:=hd.setMe rfl rfl rfl rfl ⟨dy,hm1⟩ (by rw [←hH1];exact Keep.upd _ _ _)
     walk_at "rd"
     refine rd_aug hm1 T.cl_Yard T.n_Yard_sold_litres rfl ?_
     walk_at "rd"
     refine rd_put hm1 (by show 12 < 1000;decide) (show putF "sold_litres" (V.int ((y.drunk:Int)+(n:Int))) (yardF A { y with tank:=y.tank - n })=yardF A { y with tank:=y.tank - n,drunk:=y.drunk+n } by rw [←Int.natCast_add];rfl) ?_
     generalize hH2:upd H1 A.a (HO.ins t.cYard dy (yardF A { y with tank:=y.tank - n,drunk:=y.drunk+n }))=H2
     have hm2:H2 A.a=some (HO.ins t.cYard dy (yardF A { y with tank:=y.tank - n,drunk:=y.drunk+n })):=by rw [←hH2];exact upd_same
     have hd2:Draft t H0 H2 A { y with tank:=y.tank - n,drunk:=y.drunk+n }:=hd1.setMe rfl rfl rfl rfl ⟨dy,hm2⟩ (by rw [←hH2];exact Keep.upd _ _ _)
     walk_at "rd"
     refine rd_aug hm2 T.cl_Yard T.n_Yard_earned rfl ?_
     walk_at "rd"
     refine ⟨.inr ⟨by omega,by omega⟩,?_⟩
     walk_at "rd"
     refine rd_put hm2 (by show 12 < 1000;decide) (show putF "earned" (V.int ((y.earned:Int)+((n:Nat):Int) * ((p:Nat):Int))) (yardF A { y with tank:=y.tank - n,drunk:=y.drunk+n })=yardF A { y with tank:=y.tank - n,drunk:=y.drunk+n,earned:=y.earned+n * p } by rw [←Int.natCast_mul,←Int.natCast_add];rfl) ?_
     generalize hH3:upd H2 A.a (HO.ins t.cYard dy (yardF A { y with tank:=y.tank - n,drunk:=y.drunk+n,earned:=y.earned+n * p }))=H3
     have hm3:H3 A.a=some (HO.ins t.cYard dy (yardF A { y with tank:=y.tank - n,drunk:=y.drunk+n,earned:=y.earned+n * p })):=by rw [←hH3];exact upd_same
     walk_at "rd"
     exact kk.2 _ A _ rfl (hd2.setMe rfl rfl rfl rfl ⟨dy,hm3⟩ (by rw [←hH3];exact Keep.upd _ _ _)) rfl
end
end Y58
namespace Y58
open PySem PySem.Spec PyProof.Rows L2
abbrev s_why_not_from:Stmt:=top 123
theorem sc_why_not_from:FnScope ["yard","k","t","car"] ["yard","k","t"] (defScope s_why_not_from):=by walk_at "sc"
abbrev s_take_part_off:Stmt:=top 124
theorem sc_take_part_off:FnScope ["yard","k","t","refusal","car"] ["yard","k","t"] (defScope s_take_part_off):=by walk_at "sc"
abbrev s_strip_for:Stmt:=top 125
theorem sc_strip_for:FnScope ["yard","k","t","refusal","car","must"] ["yard","k","t"] (defScope s_strip_for):=by walk_at "sc"
abbrev s_sell_part:Stmt:=top 127
theorem sc_sell_part:FnScope ["yard","i","price","t"] ["yard","i","price"] (defScope s_sell_part):=by walk_at "sc"
section
variable {P:Program} {w:World} {K:PySem.W.Frag} {mg:Str→Option Value} {base:Heap} {t:Adr} {f:Addr} {fd:FuncData}
def crushR (y:Km415.Yard) (k:Nat):Int×Option Km415.Yard:=match y.live k with
 | none=>(-2,none)
 | some c=>if c.litres≠0 then (-13,none) else if y.bad c≠[] then (-16,none) else (((c.kg:Nat):Int),some { y with cars:=y.cars.set k { c with has:=0,kg:=0,gone:=true },scrap:=y.scrap+c.kg })
theorem ok_crush_car (F:Fun K "crush_car" "crush_car" s_crush_car f fd) (T:Txt K mg t) (F_car_is_there:Fd P w K mg base "car_is_there" 1 ["yard","k"] (sp_car_is_there t)) (F_is_dry:Fd P w K mg base "is_dry" 1 ["car"] (sp_is_dry t))
  (F_harmful_kinds:Fd P w K mg base "harmful_kinds" 1 ["yard"] (sp_harmful_kinds t)):FnOk P w K mg base CX0 2 f fd ["yard","k"] (sp_chg1 t crushR):=by
 refine F.ok sc_crush_car (fun vs H Q E h=>?_) (fun cdv _ outer s H vs Q E hr h=>?_)
 ·obtain ⟨H0,A,y,k,rfl,_⟩:=h;rfl
 ·obtain ⟨H0,A,y,k,rfl,hd,g,kk⟩:=h
  have nd:=sc_crush_car.nd
  refine ⟨_,(pss_cons (ps_if (pt_not (pt_val (pe_fn F_car_is_there (hr.mono (by decide)) rfl (pa_cons (pv 0) (pa_cons (pv 1) pa_nil))))) (pss_one (ps_ret (pe_gi rfl T.g_NOT_THERE))) pss_nil) (pss_cons (ps_set (i:=2) nd rfl (by walk_at "lo") (pe_ix (ix_listK K) (pe_fldK K (pv 0) rfl) (pv 1) (fun _ _=>rfl))) (pss_cons (ps_if (pt_not (pt_val (pe_fn F_is_dry (hr.mono (by decide)) rfl (pa_cons (pv 2) pa_nil)))) (pss_one (ps_ret (pe_gi rfl T.g_NOT_DRY))) pss_nil) (pss_cons (ps_if (pt_cmpR op_ne (pe_op op_and (pe_fldK K (pv 2) rfl) (pe_fn F_harmful_kinds (hr.mono (by decide)) rfl (pa_cons (pv 0) pa_nil))) pe_int (nomark _)) (pss_one (ps_ret (pe_gi rfl T.g_IN_THE_WAY))) pss_nil) (pss_cons (ps_set (i:=3) nd rfl (by walk_at "lo") (pe_fldK K (pv 2) rfl)) (pss_cons (ps_fldaugK K (pv 0) (pv 3) in_add) (pss_cons (ps_fldK K (pv 2) pe_int rfl) (pss_cons (ps_fldK K (pv 2) pe_int rfl) (pss_cons (ps_fldK K (pv 2) pe_bl rfl) (pss_one (ps_ret (pv 3)))))))))))),?_⟩
  walk_at "rd"
  refine ⟨A,y,k,rfl,hd.at_,?_⟩
  unfold crushR at kk
  cases hlv:y.live k with
  | none =>
   rw [hlv] at kk
   refine ⟨_,rfl,iteT ?_⟩
   exact kk.1 H rfl (Same.refl H)
  | some c =>
   rw [hlv] at kk
   obtain ⟨hc,hgone⟩:=live_get hlv
   obtain ⟨b,dc,hb,hbr,hcb⟩:=hd.at_.car hc
   obtain ⟨dy,hme⟩:=hd.at_.me
   have hcl:=hd.at_.cl
   have hhas:=(g.ca k c hc).2.1
   refine ⟨_,rfl,iteF ?_⟩
   walk_at "rd"
   refine ⟨b,dc,c,rfl,hcb,_,rfl,?_⟩
   have kk1:ChgS t H0 H A Q (if c.litres≠0 then (-13,none) else if y.bad c≠[] then (-16,none) else (((c.kg:Nat):Int),some { y with cars:=y.cars.set k { c with has:=0,kg:=0,gone:=true },scrap:=y.scrap+c.kg })):=kk
   by_cases hl:c.litres=0
   ·rw [decide_eq_true hl]
    rw [if_neg (fun q=>q hl)] at kk1
    refine iteF ?_
    walk_at "rd"
    refine ⟨A,y,rfl,hd.at_,g,fun H1 s1=>?_⟩
    walk_at "rd"
    show if (!decide (V.int (Builtin.bitAnd ((c.has:Nat):Int) ((harmN y y.types.length:Nat):Int))=V.int ((0:Nat):Int)))=true then _ else _
    rw [and_nat,dec_nat,harm_and c hhas g.tl]
    have hd1:=hd.grow s1
    have hcb1:=s1 _ _ hcb
    have hme1:=s1 _ _ hme
    by_cases hbad:y.bad c=[]
    ·rw [decide_eq_true (bitsOf_zero.mpr hbad)]
     rw [if_neg (fun q=>q hbad)] at kk1
     refine iteF ?_
     walk_at "rd"
     refine rd_aug hme1 T.cl_Yard T.n_Yard_scrap rfl ?_
     walk_at "rd"
     refine rd_put hme1 (by show 12 < 1000;decide) (show putF "scrap" (V.int ((y.scrap:Int)+(c.kg:Int))) (yardF A y)=yardF A { y with scrap:=y.scrap+c.kg } by rw [←Int.natCast_add];rfl) ?_
     generalize hH2:upd H1 A.a (HO.ins t.cYard dy (yardF A { y with scrap:=y.scrap+c.kg }))=H2
     have hd2:Draft t H0 H2 A { y with scrap:=y.scrap+c.kg }:=hd1.setMe rfl rfl rfl rfl ⟨dy,by rw [←hH2];exact upd_same⟩ (by rw [←hH2];exact Keep.upd _ _ _)
     have hcb2:H2 b=some (.ins t.cCar dc (carF c)):=by rw [←hH2,upd_ne (ne_fs hcb1 hme1 (by show 5≠12;decide))];exact hcb1
     walk_at "rd"
     refine rd_set hcb2 T.cl_Car T.n_Car_kg (by show 5 < 1000;decide) (show putF "kg" (V.int 0) (carF c)=carF { c with kg:=0 } from rfl) ?_
     generalize hH3:upd H2 b (HO.ins t.cCar dc (carF { c with kg:=0 }))=H3
     have hcb3:H3 b=some (.ins t.cCar dc (carF { c with kg:=0 })):=by rw [←hH3];exact upd_same
     have hd3:=hd2.setCar hb ⟨dc,hcb3⟩ (show Keep b H2 H3 by rw [←hH3];exact Keep.upd _ _ _)
     walk_at "rd"
     refine rd_set hcb3 T.cl_Car T.n_Car_has (by show 5 < 1000;decide) (show putF "has" (V.int 0) (carF { c with kg:=0 })=carF { c with kg:=0,has:=0 } from rfl) ?_
     generalize hH4:upd H3 b (HO.ins t.cCar dc (carF { c with kg:=0,has:=0 }))=H4
     have hcb4:H4 b=some (.ins t.cCar dc (carF { c with kg:=0,has:=0 })):=by rw [←hH4];exact upd_same
     have hd4:=hd3.setCar hb ⟨dc,hcb4⟩ (show Keep b H3 H4 by rw [←hH4];exact Keep.upd _ _ _)
     walk_at "rd"
     refine rd_set hcb4 T.cl_Car T.n_Car_crushed (by show 5 < 1000;decide) (show putF "crushed" (V.bl true) (carF { c with kg:=0,has:=0 })=carF { c with kg:=0,has:=0,gone:=true } from rfl) ?_
     have hd5:=hd4.setCar (c:={ c with kg:=0,has:=0,gone:=true }) hb ⟨dc,upd_same⟩ (Keep.upd b H4 (HO.ins t.cCar dc (carF { c with kg:=0,has:=0,gone:=true })))
     have e5:(((y.cars.set k { c with kg:=0 }).set k { c with kg:=0,has:=0 }).set k { c with kg:=0,has:=0,gone:=true })=y.cars.set k { c with has:=0,kg:=0,gone:=true }:=by rw [List.set_set,List.set_set]
     have hd6:Draft t H0 (upd H4 b (HO.ins t.cCar dc (carF { c with kg:=0,has:=0,gone:=true }))) A { y with cars:=y.cars.set k { c with has:=0,kg:=0,gone:=true },scrap:=y.scrap+c.kg }:=by
      rw [←e5];exact hd5
     exact ⟨_,rfl,kk1.2 _ A _ rfl hd6 rfl⟩
    ·rw [decide_eq_false (fun q=>hbad (bitsOf_zero.mp q))]
     rw [if_pos hbad] at kk1
     exact iteT (kk1.1 H1 rfl s1)
   ·rw [decide_eq_false hl]
    rw [if_pos hl] at kk1
    exact iteT (kk1.1 H rfl (Same.refl H))
def whyR (y:Km415.Yard) (k n:Nat):Int:=match y.live k with
 | none=>-2
 | some c=>if c.has.testBit n=false then -6 else if c.litres≠0 then -13 else 0
def sp_why_not_from (t:Adr):Sp:=fun vs H Q _=>∃A y k n,vs=[.ref A.a,iN k,iN n]∧YardAt t H A y∧Q (.int (whyR y k n)) H
theorem ok_why_not_from (F:Fun K "why_not_from" "why_not_from" s_why_not_from f fd) (T:Txt K mg t) (F_car_is_there:Fd P w K mg base "car_is_there" 1 ["yard","k"] (sp_car_is_there t)) (F_is_dry:Fd P w K mg base "is_dry" 1 ["car"] (sp_is_dry t))
  (F_has_part:Fd P w K mg base "has_part" 1 ["car","t"] (sp_has_part t)):FnOk P w K mg base CX0 2 f fd ["yard","k","t"] (sp_why_not_from t):=by
 refine F.ok sc_why_not_from (fun vs H Q E h=>?_) (fun cdv _ outer s H vs Q E hr h=>?_)
 ·obtain ⟨A,y,k,n,rfl,_⟩:=h;rfl
 ·obtain ⟨A,y,k,n,rfl,hy,kk⟩:=h
  have nd:=sc_why_not_from.nd
  refine ⟨_,(pss_cons (ps_if (pt_not (pt_val (pe_fn F_car_is_there (hr.mono (by decide)) rfl (pa_cons (pv 0) (pa_cons (pv 1) pa_nil))))) (pss_one (ps_ret (pe_gi rfl T.g_NOT_THERE))) pss_nil) (pss_cons (ps_set (i:=3) nd rfl (by walk_at "lo") (pe_ix (ix_listK K) (pe_fldK K (pv 0) rfl) (pv 1) (fun _ _=>rfl))) (pss_cons (ps_if (pt_not (pt_val (pe_fn F_has_part (hr.mono (by decide)) rfl (pa_cons (pv 3) (pa_cons (pv 2) pa_nil))))) (pss_one (ps_ret (pe_gi rfl T.g_NOT_HAD))) pss_nil) (pss_cons (ps_if (pt_not (pt_val (pe_fn F_is_dry (hr.mono (by decide)) rfl (pa_cons (pv 3) pa_nil)))) (pss_one (ps_ret (pe_gi rfl T.g_NOT_DRY))) pss_nil) (pss_one (ps_ret pe_int)))))),?_⟩
  walk_at "rd"
  refine ⟨A,y,k,rfl,hy,?_⟩
  unfold whyR at kk
  cases hlv:y.live k with
  | none =>
   rw [hlv] at kk
   exact ⟨_,rfl,iteT kk⟩
  | some c =>
   rw [hlv] at kk
   obtain ⟨hc,hgone⟩:=live_get hlv
   obtain ⟨b,dc,hb,hbr,hcb⟩:=hy.car hc
   obtain ⟨dy,hme⟩:=hy.me
   have hcl:=hy.cl
   have kk1:Q (.int (if c.has.testBit n=false then -6 else if c.litres≠0 then -13 else 0)) H:=kk
   refine ⟨_,rfl,iteF ?_⟩
   walk_at "rd"
   refine ⟨b,dc,c,n,rfl,hcb,_,rfl,?_⟩
   by_cases hh:c.has.testBit n=true
   ·rw [hh]
    rw [if_neg (by rw [hh];decide)] at kk1
    refine iteF ?_
    walk_at "rd"
    refine ⟨b,dc,c,rfl,hcb,_,rfl,?_⟩
    by_cases hl:c.litres=0
    ·rw [decide_eq_true hl]
     rw [if_neg (fun q=>q hl)] at kk1
     exact iteF kk1
    ·rw [decide_eq_false hl]
     rw [if_pos hl] at kk1
     exact iteT kk1
   ·rw [Bool.not_eq_true _ |>.mp hh]
    rw [if_pos (Bool.not_eq_true _ |>.mp hh)] at kk1
    exact iteT kk1
def offR (y:Km415.Yard) (k n:Nat):Int×Option Km415.Yard:=match y.live k with
 | none=>(-2,none)
 | some c=>if c.has.testBit n=false then (-6,none) else if c.litres≠0 then (-13,none) else if y.can c n=false then (-16,none) else if y.room=[] then (-28,none) else (((y.minutesOf n:Nat):Int),some (y.takes k c [n]))
theorem pow_nat (n:Nat):(1:Int) * 2^((n:Int)).toNat=((2^n:Nat):Int):=by
 rw [Int.one_mul,Int.toNat_natCast,Int.natCast_pow];rfl
theorem kinds_two {n:Nat} (h:n < 8):Km415.kinds 8 (2^n)=[n]:=by
 unfold Km415.kinds
 have hf:((List.range 8).filter fun u=>(2^n).testBit u)=(List.range 8).filter fun u=>u==n:=by
  apply List.filter_congr
  intro u _
  rw [Nat.testBit_two_pow]
  by_cases z:n=u
  ·subst z;simp
  ·have z':¬ u=n:=fun e=>z e.symm
   simp [z,z']
 rw [hf,List.filter_beq,List.Nodup.count List.nodup_range,if_pos (List.mem_range.mpr h)]
 rfl
theorem why_not {y:Km415.Yard} {k n:Nat} (h:¬ whyR y k n < 0):∃c,y.live k=some c∧c.has.testBit n=true∧c.litres=0:=by
 unfold whyR at h
 cases hlv:y.live k with
 | none=>rw [hlv] at h;exact absurd (by decide:(-2:Int) < 0) h
 | some c =>
  rw [hlv] at h
  have h':¬ (if c.has.testBit n=false then (-6:Int) else if c.litres≠0 then -13 else 0) < 0:=h
  by_cases hh:c.has.testBit n=false
  ·rw [if_pos hh] at h';exact absurd (by decide) h'
  ·rw [if_neg hh] at h'
   by_cases hl:c.litres=0
   ·exact ⟨c,rfl,by simpa using hh,hl⟩
   ·rw [if_pos hl] at h';exact absurd (by decide) h'
theorem off_ref {y:Km415.Yard} {k n:Nat} (h:whyR y k n < 0):offR y k n=(whyR y k n,none):=by
 unfold whyR at h
 unfold offR whyR
 cases hlv:y.live k with
 | none=>rfl
 | some c =>
  rw [hlv] at h
  have h':(if c.has.testBit n=false then (-6:Int) else if c.litres≠0 then -13 else 0) < 0:=h
  show (if c.has.testBit n=false then ((-6:Int),none) else if c.litres≠0 then (-13,none) else _)=((if c.has.testBit n=false then (-6:Int) else if c.litres≠0 then -13 else 0),none)
  by_cases hh:c.has.testBit n=false
  ·rw [if_pos hh,if_pos hh]
  ·rw [if_neg hh] at h'
   rw [if_neg hh,if_neg hh]
   by_cases hl:c.litres=0
   ·rw [if_neg (fun q=>q hl)] at h';exact absurd h' (by decide)
   ·rw [if_pos hl,if_pos hl]
theorem ok_take_part_off (F:Fun K "take_part_off" "take_part_off" s_take_part_off f fd) (T:Txt K mg t) (F_why_not_from:Fd P w K mg base "why_not_from" 2 ["yard","k","t"] (sp_why_not_from t))
  (F_is_held_back:Fd P w K mg base "is_held_back" 1 ["yard","car","t"] (sp_is_held_back t)) (F_free_places:Fd P w K mg base "free_places" 1 ["yard"] (sp_free_places t)) (F_take_off:Fd P w K mg base "take_off" 3 ["yard","car","bits"] (sp_take_off t)):FnOk P w K mg base CX0 4 f fd ["yard","k","t"] (sp_chg2 t offR):=by
 refine F.ok sc_take_part_off (fun vs H Q E h=>?_) (fun cdv _ outer s H vs Q E hr h=>?_)
 ·obtain ⟨H0,A,y,j,k,rfl,_⟩:=h;rfl
 ·obtain ⟨H0,A,y,k,n,rfl,hd,g,kk⟩:=h
  have nd:=sc_take_part_off.nd
  refine ⟨_,(pss_cons (ps_set (i:=3) nd rfl (by walk_at "lo") (pe_fn F_why_not_from (hr.mono (by decide)) rfl (pa_cons (pv 0) (pa_cons (pv 1) (pa_cons (pv 2) pa_nil))))) (pss_cons (ps_if (pt_cmpR op_lt (pv 3) pe_int (nomark _)) (pss_one (ps_ret (pv 3))) pss_nil) (pss_cons (ps_set (i:=4) nd rfl (by walk_at "lo") (pe_ix (ix_listK K) (pe_fldK K (pv 0) rfl) (pv 1) (fun _ _=>rfl))) (pss_cons (ps_if (pt_val (pe_fn F_is_held_back (hr.mono (by decide)) rfl (pa_cons (pv 0) (pa_cons (pv 4) (pa_cons (pv 2) pa_nil))))) (pss_one (ps_ret (pe_gi rfl T.g_IN_THE_WAY))) pss_nil) (pss_cons (ps_if (pt_cmpR op_eq (pe_fn F_free_places (hr.mono (by decide)) rfl (pa_cons (pv 0) pa_nil)) pe_int (nomark _)) (pss_one (ps_ret (pe_gi rfl T.g_NO_ROOM))) pss_nil) (pss_one (ps_ret (pe_fn F_take_off (hr.mono (by decide)) rfl (pa_cons (pv 0) (pa_cons (pv 4) (pa_cons (pe_op op_shl pe_int (pv 2)) pa_nil))))))))))),?_⟩
  walk_at "rd"
  refine ⟨A,y,k,n,rfl,hd.at_,?_⟩
  walk_at "rd"
  by_cases hw:whyR y k n < 0
  ·rw [decide_eq_true hw]
   rw [off_ref hw] at kk
   exact iteT ⟨_,rfl,kk.1 H rfl (Same.refl H)⟩
  ·rw [decide_eq_false hw]
   obtain ⟨c,hlv,hh,hl⟩:=why_not hw
   have kk1:ChgS t H0 H A Q (if y.can c n=false then (-16,none) else if y.room=[] then (-28,none) else (((y.minutesOf n:Nat):Int),some (y.takes k c [n]))):=by
    unfold offR at kk
    rw [hlv] at kk
    have kk':ChgS t H0 H A Q (if c.has.testBit n=false then (-6,none) else if c.litres≠0 then (-13,none) else if y.can c n=false then (-16,none) else if y.room=[] then (-28,none) else (((y.minutesOf n:Nat):Int),some (y.takes k c [n]))):=kk
    rw [if_neg (by rw [hh];decide),if_neg (fun q=>q hl)] at kk'
    exact kk'
   obtain ⟨hc,hgone⟩:=live_get hlv
   obtain ⟨b,dc,hb,hbr,hcb⟩:=hd.at_.car hc
   obtain ⟨dy,hme⟩:=hd.at_.me
   have hcl:=hd.at_.cl
   have hhas:=(g.ca k c hc).2.1
   have hnt:=lt_of_testBit hhas hh
   have hn8:n < 8:=Nat.lt_of_lt_of_le hnt g.tl
   refine iteF ?_
   walk_at "rd"
   refine ⟨A,y,b,dc,c,n,rfl,hd.at_,hcb,hnt,_,rfl,?_⟩
   rw [can_eq g hgone n,decide_eq_true hl,hh,Bool.true_and,Bool.true_and] at kk1
   by_cases hn:y.needsOf n &&& c.has=0
   ·rw [decide_eq_true hn] at kk1 ⊢
    rw [if_neg (by decide)] at kk1
    refine iteF ?_
    walk_at "rd"
    refine ⟨A,y,rfl,hd.at_,g,?_⟩
    walk_at "rd"
    show if decide (V.int ((y.room.length:Nat):Int)=V.int ((0:Nat):Int))=true then _ else _
    rw [dec_nat]
    by_cases hr0:y.room=[]
    ·rw [if_pos hr0] at kk1
     rw [decide_eq_true (by rw [hr0];rfl)]
     exact iteT (kk1.1 H rfl (Same.refl H))
    ·rw [if_neg hr0] at kk1
     have hrl:y.room.length≠0:=fun q=>hr0 (List.eq_nil_of_length_eq_zero q)
     rw [decide_eq_false hrl]
     refine iteF ?_
     walk_at "rd"
     refine ⟨⟨by omega,by omega,by decide⟩,?_⟩
     refine ⟨H0,A,y,k,b,c,2^n,?_,hd,g,hb,hc,hgone,?_,?_,fun H' sv hd'=>?_⟩
     ·show [V.ref A.a,V.ref b,V.int (1 * 2^((n:Int)).toNat)]=_
      rw [pow_nat n]
     ·intro u hu
      rw [Nat.testBit_two_pow] at hu
      have:n=u:=of_decide_eq_true hu
      subst this
      exact hh
     ·rw [kinds_two hn8]
      show 1≤_
      omega
     ·rw [kinds_two hn8] at hd' ⊢
      rw [List.map_cons,List.map_nil,sum_cons,sum_nil,Nat.add_zero]
      exact kk1.2 _ _ _ rfl hd' rfl
   ·rw [decide_eq_false hn] at kk1 ⊢
    rw [if_pos rfl] at kk1
    exact iteT (kk1.1 H rfl (Same.refl H))
def stripR (y:Km415.Yard) (k n:Nat):Int×Option Km415.Yard:=match y.live k with
 | none=>(-2,none)
 | some c=>if c.has.testBit n=false then (-6,none) else if c.litres≠0 then (-13,none) else if y.room.length < (y.off c (2^n)).length then (-28,none) else (((y.time c (2^n):Nat):Int),some (y.takes k c (y.off c (2^n))))
theorem strip_ref {y:Km415.Yard} {k n:Nat} (h:whyR y k n < 0):stripR y k n=(whyR y k n,none):=by
 unfold whyR at h
 unfold stripR whyR
 cases hlv:y.live k with
 | none=>rfl
 | some c =>
  rw [hlv] at h
  have h':(if c.has.testBit n=false then (-6:Int) else if c.litres≠0 then -13 else 0) < 0:=h
  show (if c.has.testBit n=false then ((-6:Int),none) else if c.litres≠0 then (-13,none) else _)=((if c.has.testBit n=false then (-6:Int) else if c.litres≠0 then -13 else 0),none)
  by_cases hh:c.has.testBit n=false
  ·rw [if_pos hh,if_pos hh]
  ·rw [if_neg hh] at h'
   rw [if_neg hh,if_neg hh]
   by_cases hl:c.litres=0
   ·rw [if_neg (fun q=>q hl)] at h';exact absurd h' (by decide)
   ·rw [if_pos hl,if_pos hl]
theorem ok_strip_for (F:Fun K "strip_for" "strip_for" s_strip_for f fd) (T:Txt K mg t) (F_why_not_from:Fd P w K mg base "why_not_from" 2 ["yard","k","t"] (sp_why_not_from t)) (F_must_come_off:Fd P w K mg base "must_come_off" 1 ["yard","car","wanted"] (sp_must_come_off t))
  (F_free_places:Fd P w K mg base "free_places" 1 ["yard"] (sp_free_places t)) (F_kinds_in:Fd P w K mg base "kinds_in" 1 ["bits"] sp_kinds_in) (F_take_off:Fd P w K mg base "take_off" 3 ["yard","car","bits"] (sp_take_off t)):FnOk P w K mg base CX0 4 f fd ["yard","k","t"] (sp_chg2 t stripR):=by
 refine F.ok sc_strip_for (fun vs H Q E h=>?_) (fun cdv _ outer s H vs Q E hr h=>?_)
 ·obtain ⟨H0,A,y,j,k,rfl,_⟩:=h;rfl
 ·obtain ⟨H0,A,y,k,n,rfl,hd,g,kk⟩:=h
  have nd:=sc_strip_for.nd
  refine ⟨_,(pss_cons (ps_set (i:=3) nd rfl (by walk_at "lo") (pe_fn F_why_not_from (hr.mono (by decide)) rfl (pa_cons (pv 0) (pa_cons (pv 1) (pa_cons (pv 2) pa_nil))))) (pss_cons (ps_if (pt_cmpR op_lt (pv 3) pe_int (nomark _)) (pss_one (ps_ret (pv 3))) pss_nil) (pss_cons (ps_set (i:=4) nd rfl (by walk_at "lo") (pe_ix (ix_listK K) (pe_fldK K (pv 0) rfl) (pv 1) (fun _ _=>rfl))) (pss_cons (ps_set (i:=5) nd rfl (by walk_at "lo") (pe_fn F_must_come_off (hr.mono (by decide)) rfl (pa_cons (pv 0) (pa_cons (pv 4) (pa_cons (pe_op op_shl pe_int (pv 2)) pa_nil))))) (pss_cons (ps_if (pt_cmpR op_lt (pe_fn F_free_places (hr.mono (by decide)) rfl (pa_cons (pv 0) pa_nil)) (pe_callB (call_lenK K) (by rfl) T.b_len PySem.boot_len (pa_cons (pe_fn F_kinds_in (hr.mono (by decide)) rfl (pa_cons (pv 5) pa_nil)) pa_nil)) (nomark _)) (pss_one (ps_ret (pe_gi rfl T.g_NO_ROOM))) pss_nil) (pss_one (ps_ret (pe_fn F_take_off (hr.mono (by decide)) rfl (pa_cons (pv 0) (pa_cons (pv 4) (pa_cons (pv 5) pa_nil))))))))))),?_⟩
  walk_at "rd"
  refine ⟨A,y,k,n,rfl,hd.at_,?_⟩
  walk_at "rd"
  by_cases hw:whyR y k n < 0
  ·rw [decide_eq_true hw]
   rw [strip_ref hw] at kk
   exact iteT ⟨_,rfl,kk.1 H rfl (Same.refl H)⟩
  ·rw [decide_eq_false hw]
   obtain ⟨c,hlv,hh,hl⟩:=why_not hw
   have kk1:ChgS t H0 H A Q (if y.room.length < (y.off c (2^n)).length then (-28,none) else (((y.time c (2^n):Nat):Int),some (y.takes k c (y.off c (2^n))))):=by
    unfold stripR at kk
    rw [hlv] at kk
    have kk':ChgS t H0 H A Q (if c.has.testBit n=false then (-6,none) else if c.litres≠0 then (-13,none) else if y.room.length < (y.off c (2^n)).length then (-28,none) else (((y.time c (2^n):Nat):Int),some (y.takes k c (y.off c (2^n))))):=kk
    rw [if_neg (by rw [hh];decide),if_neg (fun q=>q hl)] at kk'
    exact kk'
   obtain ⟨hc,hgone⟩:=live_get hlv
   obtain ⟨b,dc,hb,hbr,hcb⟩:=hd.at_.car hc
   obtain ⟨dy,hme⟩:=hd.at_.me
   have hcl:=hd.at_.cl
   have hhas:=(g.ca k c hc).2.1
   have hnt:=lt_of_testBit hhas hh
   have hn8:n < 8:=Nat.lt_of_lt_of_le hnt g.tl
   have h2n:2^n < 2^y.types.length:=Nat.pow_lt_pow_right (by decide) hnt
   have hmlt:=g.closed_lt hc h2n
   have hsub:=g.closed_sub (c:=c) (b:=2^n) (fun u hu=>by
    rw [Nat.testBit_two_pow] at hu
    have:n=u:=of_decide_eq_true hu
    subst this
    exact hh)
   refine iteF ?_
   walk_at "rd"
   refine ⟨⟨by omega,by omega,by decide⟩,?_⟩
   refine ⟨A,y,b,dc,c,2^n,?_,hd.at_,g,hcb,?_⟩
   ·show [V.ref A.a,V.ref b,V.int (1 * 2^((n:Int)).toNat)]=_
    rw [pow_nat n]
   walk_at "rd"
   refine ⟨A,y,rfl,hd.at_,g,?_⟩
   walk_at "rd"
   have hm8:y.closed c 8 (2^n) < 2^8:=Nat.lt_of_lt_of_le hmlt (Nat.pow_le_pow_right (by decide) g.tl)
   refine ⟨hm8,fun H1 p s1 hp hlp=>?_⟩
   walk_at "rd"
   rw [List.length_map]
   show if decide (((y.room.length:Nat):Int) < (((Km415.kinds 8 (y.closed c 8 (2^n))).length:Nat):Int))=true then _ else _
   rw [dec_lt]
   have kk2:ChgS t H0 H A Q (if y.room.length < (Km415.kinds 8 (y.closed c 8 (2^n))).length then (-28,none) else (((y.time c (2^n):Nat):Int),some (y.takes k c (Km415.kinds 8 (y.closed c 8 (2^n)))))):=kk1
   by_cases hr0:y.room.length < (Km415.kinds 8 (y.closed c 8 (2^n))).length
   ·rw [decide_eq_true hr0]
    rw [if_pos hr0] at kk2
    exact iteT (kk2.1 H1 rfl s1)
   ·rw [decide_eq_false hr0]
    rw [if_neg hr0] at kk2
    refine iteF ?_
    walk_at "rd"
    refine ⟨H0,A,y,k,b,c,y.closed c 8 (2^n),rfl,hd.grow s1,g,hb,hc,hgone,hsub,by omega,fun H' sv hd'=>?_⟩
    exact kk2.2 _ _ _ rfl hd' rfl
theorem Draft.dropPart {H0 H:Hp} {A:YA} {y:Km415.Yard} (h:Draft t H0 H A y) (j:Nat) :
  Draft t H0 (upd H A.sl (.lst (A.sv.set j .non))) { A with sv:=A.sv.set j .non } { y with stock:=y.stock.set j none }:=by
 refine h.setStock upd_same ?_ (Keep.upd _ _ _)
 exact paired_set (R:=PartAt (upd H A.sl (.lst (A.sv.set j .non)))) (x:=V.non) (y:=none) rfl j (parts_keep (Keep.upd _ _ _) (fun a xs q=>ne_tl q h.at_.sl) h.at_.st)
def sellR (y:Km415.Yard) (i p:Nat):Int×Option Km415.Yard:=match y.stock.getD i none with
 | none=>(-2,none)
 | some x=>if 10000 < p then (-22,none) else (((x.kind:Nat):Int),some { y with stock:=y.stock.set i none,sold:=y.sold+y.kgOf x.kind,earned:=y.earned+p })
theorem ok_sell_part (F:Fun K "sell_part" "sell_part" s_sell_part f fd) (T:Txt K mg t) (F_part_is_there:Fd P w K mg base "part_is_there" 1 ["yard","i"] (sp_part_is_there t)):FnOk P w K mg base CX0 2 f fd ["yard","i","price"] (sp_chg2 t sellR):=by
 refine F.ok sc_sell_part (fun vs H Q E h=>?_) (fun cdv _ outer s H vs Q E hr h=>?_)
 ·obtain ⟨H0,A,y,j,k,rfl,_⟩:=h;rfl
 ·obtain ⟨H0,A,y,i,p,rfl,hd,g,kk⟩:=h
  have nd:=sc_sell_part.nd
  refine ⟨_,(pss_cons (ps_if (pt_not (pt_val (pe_fn F_part_is_there (hr.mono (by decide)) rfl (pa_cons (pv 0) (pa_cons (pv 1) pa_nil))))) (pss_one (ps_ret (pe_gi rfl T.g_NOT_THERE))) pss_nil) (pss_cons (ps_if (pt_cmpR op_gt (pv 2) (pe_gi rfl T.g_MOST_PART_PRICE) (nomark _)) (pss_one (ps_ret (pe_gi rfl T.g_NOT_AS_TOLD))) pss_nil) (pss_cons (ps_set (i:=3) nd rfl (by walk_at "lo") (pe_ix (ix_tupK K) (pe_ix (ix_listK K) (pe_fldK K (pv 0) rfl) (pv 1) (fun _ _=>rfl)) pe_int (fun _ _=>rfl))) (pss_cons (ps_asg pe_non (pg_sub (pe_fldK K (pv 0) rfl) (pv 1) set_list)) (pss_cons (ps_fldaugK K (pv 0) (pe_fldK K (pe_ix (ix_listK K) (pe_fldK K (pv 0) rfl) (pv 3) (fun _ _=>rfl)) rfl) in_add) (pss_cons (ps_fldaugK K (pv 0) (pv 2) in_add) (pss_one (ps_ret (pv 3))))))))),?_⟩
  walk_at "rd"
  refine ⟨A,y,i,rfl,hd.at_,g,?_⟩
  unfold sellR at kk
  cases hst:y.stock.getD i none with
  | none =>
   rw [hst] at kk
   exact ⟨_,rfl,iteT (kk.1 H rfl (Same.refl H))⟩
  | some x =>
   rw [hst] at kk
   have kk1:ChgS t H0 H A Q (if 10000 < p then (-22,none) else (((x.kind:Nat):Int),some { y with stock:=y.stock.set i none,sold:=y.sold+y.kgOf x.kind,earned:=y.earned+p })):=kk
   have hsi:y.stock[i]?=some (some x):=by
    rw [List.getD_eq_getElem?_getD] at hst
    cases e:y.stock[i]? with
    | none=>rw [e] at hst;cases hst
    | some o=>rw [e] at hst;exact congrArg some hst
   obtain ⟨dy,hme⟩:=hd.at_.me
   have hsl:=hd.at_.sl
   have hkl:=hd.at_.kl
   obtain ⟨v,hv,hp⟩:=hd.at_.part hsi
   obtain ⟨bp,rfl,hbp⟩:=hp
   have hkt:=(g.st i x hsi).1
   have hx:y.types[x.kind]?=some y.types[x.kind]:=List.getElem?_eq_getElem hkt
   refine ⟨_,rfl,iteF ?_⟩
   walk_at "rd"
   show if decide ((10000:Int) < (p:Int))=true then _ else _
   rw [show decide ((10000:Int) < (p:Int))=decide (10000 < p) from dec_ltN 10000 p rfl rfl]
   by_cases h1:10000 < p
   ·rw [decide_eq_true h1]
    rw [if_pos h1] at kk1
    exact iteT (kk1.1 H rfl (Same.refl H))
   ·rw [decide_eq_false h1]
    rw [if_neg h1] at kk1
    refine iteF ?_
    walk_at "rd"
    refine rd_ixT (n:=0) hbp rfl ?_
    walk_at "rd"
    refine ⟨A.sl,A.sv,(i:Int),i,rfl,rfl,hsl,ixN_nat (List.getElem?_eq_some_iff.mp hv).1,?_⟩
    have hd1:=hd.dropPart i
    generalize upd H A.sl (HO.lst (A.sv.set i .non))=H1 at hd1
    obtain ⟨dy1,hme1⟩:=hd1.at_.me
    have hme1':H1 A.a=some (.ins t.cYard dy1 (yardF { A with sv:=A.sv.set i .non } { y with stock:=y.stock.set i none })):=hme1
    have hkl1:H1 A.kl=some (.lst (A.ks.map V.ref)):=hd1.at_.kl
    have hx1:({ y with stock:=y.stock.set i none }:Km415.Yard).types[x.kind]?=some y.types[x.kind]:=hx
    obtain ⟨bk,dk,hbk,hk⟩:=hd1.at_.kind hx1
    have hbk':(A.ks.map V.ref)[x.kind]?=some (.ref bk):=hbk
    walk_at "rd"
    refine rd_aug hme1' T.cl_Yard T.n_Yard_sold_kg rfl ?_
    walk_at "rd"
    have ekg:y.kgOf x.kind=(y.types[x.kind]).kg:=by unfold Km415.Yard.kgOf;rw [hx]
    rw [ekg] at kk1
    refine rd_put hme1' (by show 12 < 1000;decide) (show putF "sold_kg" (V.int ((y.sold:Int)+((y.types[x.kind]).kg:Int))) (yardF { A with sv:=A.sv.set i .non } { y with stock:=y.stock.set i none })=yardF { A with sv:=A.sv.set i .non } { y with stock:=y.stock.set i none,sold:=y.sold+(y.types[x.kind]).kg } by rw [←Int.natCast_add];rfl) ?_
    generalize hH2:upd H1 A.a (HO.ins t.cYard dy1 (yardF { A with sv:=A.sv.set i .non } { y with stock:=y.stock.set i none,sold:=y.sold+(y.types[x.kind]).kg }))=H2
    have hm2:H2 A.a=some (HO.ins t.cYard dy1 (yardF { A with sv:=A.sv.set i .non } { y with stock:=y.stock.set i none,sold:=y.sold+(y.types[x.kind]).kg })):=by rw [←hH2];exact upd_same
    have hd2:Draft t H0 H2 { A with sv:=A.sv.set i .non } { y with stock:=y.stock.set i none,sold:=y.sold+(y.types[x.kind]).kg }:=hd1.setMe rfl rfl rfl rfl ⟨dy1,hm2⟩ (by rw [←hH2];exact Keep.upd _ _ _)
    walk_at "rd"
    refine rd_aug hm2 T.cl_Yard T.n_Yard_earned rfl ?_
    walk_at "rd"
    refine rd_put hm2 (by show 12 < 1000;decide) (show putF "earned" (V.int ((y.earned:Int)+((p:Nat):Int))) (yardF { A with sv:=A.sv.set i .non } { y with stock:=y.stock.set i none,sold:=y.sold+(y.types[x.kind]).kg })=yardF { A with sv:=A.sv.set i .non } { y with stock:=y.stock.set i none,sold:=y.sold+(y.types[x.kind]).kg,earned:=y.earned+p } by rw [←Int.natCast_add];rfl) ?_
    exact ⟨_,rfl,kk1.2 _ { A with sv:=A.sv.set i .non } _ rfl (hd2.setMe rfl rfl rfl rfl ⟨dy1,upd_same⟩ (Keep.upd _ _ _)) rfl⟩
end
end Y58
namespace Y58
open PySem PySem.Spec PyProof.Rows L2
abbrev s_Kind_init:Stmt:=inClass (top 18) 0
theorem sc_Kind_init:FnScope ["self","kg","minutes","needs","harm"] ["self","kg","minutes","needs","harm"] (defScope s_Kind_init):=by walk_at "sc"
abbrev s_Model_init:Stmt:=inClass (top 19) 0
theorem sc_Model_init:FnScope ["self","kg","litres","groups"] ["self","kg","litres","groups"] (defScope s_Model_init):=by walk_at "sc"
abbrev s_Car_init:Stmt:=inClass (top 20) 0
theorem sc_Car_init:FnScope ["self","model","has","litres","kg"] ["self","model","has","litres","kg"] (defScope s_Car_init):=by walk_at "sc"
abbrev s_add_kind:Stmt:=top 119
theorem sc_add_kind:FnScope ["yard","kg","minutes","needs","harm"] ["yard","kg","minutes","needs","harm"] (defScope s_add_kind):=by walk_at "sc"
abbrev s_add_model:Stmt:=top 120
theorem sc_add_model:FnScope ["yard","kg","litres","groups","least_kg","kind"] ["yard","kg","litres","groups"] (defScope s_add_model):=by walk_at "sc"
abbrev s_add_car:Stmt:=top 121
theorem sc_add_car:FnScope ["yard","m","lacks","model","every_kind","car"] ["yard","m","lacks"] (defScope s_add_car):=by walk_at "sc"
abbrev s_copied_car:Stmt:=top 22
theorem sc_copied_car:FnScope ["car","twin"] ["car"] (defScope s_copied_car):=by walk_at "sc"
section
variable {P:Program} {w:World} {K:PySem.W.Frag} {mg:Str→Option Value} {base:Heap} {t:Adr} {f:Addr} {fd:FuncData}
def sp_Kind (t:Adr):Sp:=fun vs H Q _=>∃(x dx:Addr) (z:Km415.Type_),vs=[.ref x,iN z.kg,iN z.minutes,iN z.needs,iN (Km415.bit z.harm)]∧H x=some (.ins t.cKind dx [])∧∀H',Keep x H H'→H' x=some (.ins t.cKind dx (kindF z))→Q .non H'
theorem ok_Kind (F:Fun K "__init__" "Kind.__init__" s_Kind_init f fd) (T:Txt K mg t):FnOk P w K mg base CX0 1 f fd ["self","kg","minutes","needs","harm"] (sp_Kind t):=by
 refine F.ok sc_Kind_init (fun vs H Q E h=>?_) (fun cdv _ outer s H vs Q E hr h=>?_)
 ·obtain ⟨x,dx,z,rfl,_⟩:=h;rfl
 ·obtain ⟨x,dx,z,rfl,hx,kk⟩:=h
  have nd:=sc_Kind_init.nd
  refine ⟨_,(pss_cons (ps_fldK K (pv 0) (pv 1) rfl) (pss_cons (ps_fldK K (pv 0) (pv 2) rfl) (pss_cons (ps_fldK K (pv 0) (pv 3) rfl) (pss_one (ps_fldK K (pv 0) (pv 4) rfl))))),?_⟩
  walk_at "rd"
  refine rd_set hx T.cl_Kind T.n_Kind_kg (by show 0 < 1000;decide) rfl ?_
  walk_at "rd"
  refine rd_set upd_same T.cl_Kind T.n_Kind_minutes (by show 1 < 1000;decide) rfl ?_
  walk_at "rd"
  refine rd_set upd_same T.cl_Kind T.n_Kind_needs (by show 2 < 1000;decide) rfl ?_
  walk_at "rd"
  refine rd_set upd_same T.cl_Kind T.n_Kind_harm (by show 3 < 1000;decide) rfl ?_
  exact kk _ (((Keep.upd _ _ _).trans (Keep.upd _ _ _)).trans (Keep.upd _ _ _) |>.trans (Keep.upd _ _ _)) upd_same
def sp_Model (t:Adr):Sp:=fun vs H Q _=>∃(x dx:Addr) (z:Km415.Model) (g:Addr),vs=[.ref x,iN z.kg,iN z.litres,.ref g]∧H x=some (.ins t.cModel dx [])∧∀H',Keep x H H'→H' x=some (.ins t.cModel dx (modelF z g))→Q .non H'
theorem ok_Model (F:Fun K "__init__" "Model.__init__" s_Model_init f fd) (T:Txt K mg t):FnOk P w K mg base CX0 1 f fd ["self","kg","litres","groups"] (sp_Model t):=by
 refine F.ok sc_Model_init (fun vs H Q E h=>?_) (fun cdv _ outer s H vs Q E hr h=>?_)
 ·obtain ⟨x,dx,z,g,rfl,_⟩:=h;rfl
 ·obtain ⟨x,dx,z,g,rfl,hx,kk⟩:=h
  have nd:=sc_Model_init.nd
  refine ⟨_,(pss_cons (ps_fldK K (pv 0) (pv 1) rfl) (pss_cons (ps_fldK K (pv 0) (pv 2) rfl) (pss_one (ps_fldK K (pv 0) (pv 3) rfl)))),?_⟩
  walk_at "rd"
  refine rd_set hx T.cl_Model T.n_Model_kg (by show 0 < 1000;decide) rfl ?_
  walk_at "rd"
  refine rd_set upd_same T.cl_Model T.n_Model_litres (by show 1 < 1000;decide) rfl ?_
  walk_at "rd"
  refine rd_set upd_same T.cl_Model T.n_Model_groups (by show 2 < 1000;decide) rfl ?_
  exact kk _ (((Keep.upd _ _ _).trans (Keep.upd _ _ _)).trans (Keep.upd _ _ _)) upd_same
def sp_Car (t:Adr):Sp:=fun vs H Q _=>∃(x dx:Addr) (z:Km415.Car),vs=[.ref x,iN z.model,iN z.has,iN z.litres,iN z.kg]∧z.gone=false∧H x=some (.ins t.cCar dx [])∧∀H',Keep x H H'→H' x=some (.ins t.cCar dx (carF z))→Q .non H'
theorem ok_Car (F:Fun K "__init__" "Car.__init__" s_Car_init f fd) (T:Txt K mg t):FnOk P w K mg base CX0 1 f fd ["self","model","has","litres","kg"] (sp_Car t):=by
 refine F.ok sc_Car_init (fun vs H Q E h=>?_) (fun cdv _ outer s H vs Q E hr h=>?_)
 ·obtain ⟨x,dx,z,rfl,_⟩:=h;rfl
 ·obtain ⟨x,dx,z,rfl,hg,hx,kk⟩:=h
  have nd:=sc_Car_init.nd
  unfold carF at kk
  rw [hg] at kk
  refine ⟨_,(pss_cons (ps_fldK K (pv 0) (pv 1) rfl) (pss_cons (ps_fldK K (pv 0) (pv 2) rfl) (pss_cons (ps_fldK K (pv 0) (pv 3) rfl) (pss_cons (ps_fldK K (pv 0) (pv 4) rfl) (pss_one (ps_fldK K (pv 0) pe_bl rfl)))))),?_⟩
  walk_at "rd"
  refine rd_set hx T.cl_Car T.n_Car_model (by show 0 < 1000;decide) rfl ?_
  walk_at "rd"
  refine rd_set upd_same T.cl_Car T.n_Car_has (by show 1 < 1000;decide) rfl ?_
  walk_at "rd"
  refine rd_set upd_same T.cl_Car T.n_Car_litres (by show 2 < 1000;decide) rfl ?_
  walk_at "rd"
  refine rd_set upd_same T.cl_Car T.n_Car_kg (by show 3 < 1000;decide) rfl ?_
  walk_at "rd"
  refine rd_set upd_same T.cl_Car T.n_Car_crushed (by show 4 < 1000;decide) rfl ?_
  exact kk _ ((((Keep.upd _ _ _).trans (Keep.upd _ _ _)).trans (Keep.upd _ _ _)).trans (Keep.upd _ _ _) |>.trans (Keep.upd _ _ _)) upd_same
theorem made_same {H H':Hp} {x dx C:Addr} (nx:H x=none) (nd:H dx=none) (k:Keep x (upd (upd H dx (.own x)) x (.ins C dx [])) H'):Same H H':=Same.made nx nd fun b o e n=>k b o e n
def sp_copied_car (t:Adr):Sp:=fun vs H Q _=>∃(a dx:Addr) (c:Km415.Car),vs=[.ref a]∧H a=some (.ins t.cCar dx (carF c))∧∀H' x,Same H H'→H x=none→CarAt t H' x c→Q (.ref x) H'
theorem ok_copied_car (F:Fun K "copied_car" "copied_car" s_copied_car f fd) (T:Txt K mg t) (M_Car:Md P w K mg base "Car" t.cCar 1 ["self","model","has","litres","kg"] (sp_Car t)):FnOk P w K mg base CX0 3 f fd ["car"] (sp_copied_car t):=by
 refine F.ok sc_copied_car (fun vs H Q E h=>?_) (fun cdv _ outer s H vs Q E hr h=>?_)
 ·obtain ⟨a,dx,c,rfl,_⟩:=h;rfl
 ·obtain ⟨a,da,c,rfl,ha,kk⟩:=h
  have nd:=sc_copied_car.nd
  refine ⟨_,(pss_cons (ps_set (i:=1) nd rfl (by walk_at "lo") (pe_mk M_Car (hr.mono (by decide)) rfl (pa_cons (pe_fldK K (pv 0) rfl) (pa_cons (pe_fldK K (pv 0) rfl) (pa_cons (pe_fldK K (pv 0) rfl) (pa_cons (pe_fldK K (pv 0) rfl) pa_nil)))))) (pss_cons (ps_fldK K (pv 1) (pe_fldK K (pv 0) rfl) rfl) (pss_one (ps_ret (pv 1))))),?_⟩
  walk_at "rd"
  intro x dx hx hdx hne
  refine ⟨x,dx,{ c with gone:=false },rfl,rfl,upd_same,fun H1 kp hx1=>⟨rfl,?_⟩⟩
  have s1:=made_same hx hdx kp
  have ha1:=s1 _ _ ha
  walk_at "rd"
  refine rd_set hx1 T.cl_Car T.n_Car_crushed (by show 5 < 1000;decide) (show putF "crushed" (V.bl c.gone) (carF { c with gone:=false })=carF c from rfl) ?_
  exact ⟨_,rfl,kk _ x (same_upd s1 hx) hx ⟨dx,upd_same⟩⟩
end
end Y58
namespace Y58
open PySem PySem.Spec PyProof.Rows L2
section
variable {P:Program} {w:World} {K:PySem.W.Frag} {mg:Str→Option Value} {base:Heap} {t:Adr} {f:Addr} {fd:FuncData}
section
variable {H0 H H':Hp} {A:YA} {y:Km415.Yard}
theorem paired_keep_cars {b:Addr} (kp:Keep b H H') (h:YardAt t H A y) (n:∀a C d fs,H a=some (.ins C d fs)→a≠b):Paired (CarAt t H') A.cs y.cars:=cars_keep kp h.cs fun a ha=>by
 obtain ⟨i,hi,e⟩:=List.getElem_of_mem ha
 obtain ⟨c,_,⟨d,hd⟩⟩:=paired_get' h.cs (show A.cs[i]?=some a by rw [List.getElem?_eq_getElem hi,e])
 exact n _ _ _ _ hd
theorem Draft.addKind (h:Draft t H0 H A y) {x:Addr} {z:Km415.Type_} (hz:KindAt t H' x z) (hl:H' A.kl=some (.lst ((A.ks++[x]).map V.ref))) (kp:Keep A.kl H H'):Draft t H0 H' { A with ks:=A.ks++[x] } { y with types:=y.types++[z] }:=by
 have hap:=h.ap
 simp only [List.nodup_cons,List.mem_cons,List.not_mem_nil,or_false,not_or] at hap
 obtain ⟨⟨n1,n2,n3⟩,_⟩:=hap
 obtain ⟨dy,hy⟩:=h.at_.me
 have hkl:=h.at_.kl
 refine ⟨⟨⟨dy,kp _ _ hy (ne_il hy hkl)⟩,hl,kp _ _ h.at_.ml (fun e=>n1 e.symm),kp _ _ h.at_.cl (fun e=>n2 e.symm),kp _ _ h.at_.sl (fun e=>n3 e.symm),paired_snoc hz (kinds_keep kp (fun a d x q=>ne_il q hkl) h.at_.ks),
  models_keep kp (fun a d x g q=>ne_il q hkl) (fun a xs q=>ne_tl q hkl) h.at_.ms,paired_keep_cars (A:=A) (y:=y) kp h.at_ (fun a C d fs q=>ne_il q hkl),parts_keep kp (fun a xs q=>ne_tl q hkl) h.at_.st,h.at_.nd⟩,h.keep h.fk kp,h.fa,h.fk,h.fm,h.fc,h.fs,h.fcs,h.ap⟩
theorem Draft.addModel (h:Draft t H0 H A y) {x:Addr} {z:Km415.Model} (hz:ModelAt t H' x z) (hl:H' A.ml=some (.lst ((A.ms++[x]).map V.ref))) (kp:Keep A.ml H H'):Draft t H0 H' { A with ms:=A.ms++[x] } { y with models:=y.models++[z] }:=by
 have hap:=h.ap
 simp only [List.nodup_cons,List.mem_cons,List.not_mem_nil,or_false,not_or] at hap
 obtain ⟨⟨n1,n2,n3⟩,⟨m1,m2⟩,_⟩:=hap
 obtain ⟨dy,hy⟩:=h.at_.me
 have hml:=h.at_.ml
 refine ⟨⟨⟨dy,kp _ _ hy (ne_il hy hml)⟩,kp _ _ h.at_.kl n1,hl,kp _ _ h.at_.cl (fun e=>m1 e.symm),kp _ _ h.at_.sl (fun e=>m2 e.symm),kinds_keep kp (fun a d x q=>ne_il q hml) h.at_.ks,
  paired_snoc hz (models_keep kp (fun a d x g q=>ne_il q hml) (fun a xs q=>ne_tl q hml) h.at_.ms),paired_keep_cars (A:=A) (y:=y) kp h.at_ (fun a C d fs q=>ne_il q hml),parts_keep kp (fun a xs q=>ne_tl q hml) h.at_.st,h.at_.nd⟩,h.keep h.fm kp,h.fa,h.fk,h.fm,h.fc,h.fs,h.fcs,h.ap⟩
theorem Draft.addCar (h:Draft t H0 H A y) {x:Addr} {z:Km415.Car} (hz:CarAt t H' x z) (hx:H0 x=none) (hn:x ∉ A.cs) (hl:H' A.cl=some (.lst ((A.cs++[x]).map V.ref))) (kp:Keep A.cl H H'):Draft t H0 H' { A with cs:=A.cs++[x] } { y with cars:=y.cars++[z] }:=by
 have hap:=h.ap
 simp only [List.nodup_cons,List.mem_cons,List.not_mem_nil,or_false,not_or] at hap
 obtain ⟨⟨n1,n2,n3⟩,⟨m1,m2⟩,c1,_⟩:=hap
 obtain ⟨dy,hy⟩:=h.at_.me
 have hcl:=h.at_.cl
 refine ⟨⟨⟨dy,kp _ _ hy (ne_il hy hcl)⟩,kp _ _ h.at_.kl n2,kp _ _ h.at_.ml m1,hl,kp _ _ h.at_.sl (fun e=>c1 e.symm),kinds_keep kp (fun a d x q=>ne_il q hcl) h.at_.ks,
  models_keep kp (fun a d x g q=>ne_il q hcl) (fun a xs q=>ne_tl q hcl) h.at_.ms,paired_snoc hz (paired_keep_cars (A:=A) (y:=y) kp h.at_ (fun a C d fs q=>ne_il q hcl)),parts_keep kp (fun a xs q=>ne_tl q hcl) h.at_.st,?_⟩,h.keep h.fc kp,h.fa,h.fk,h.fm,h.fc,h.fs,?_,h.ap⟩
 ·refine List.nodup_append.mpr ⟨h.at_.nd,by simp,fun a ha b hb e=>?_⟩
  rw [List.mem_singleton] at hb
  subst e hb
  exact hn ha
 ·intro b hb
  rcases List.mem_append.mp hb with q | q
  ·exact h.fcs b q
  ·rw [List.mem_singleton] at q;rw [q];exact hx
end
def addKindR (y:Km415.Yard) (g m n h:Nat):Int×Option Km415.Yard:=if g=0∨500 < g∨m=0∨600 < m∨2^y.types.length≤n∨1 < h then (-22,none) else if y.models≠[] then (-16,none) else if 8≤y.types.length then (-28,none) else (((y.types.length:Nat):Int),some { y with types:=y.types++[⟨g,m,n,h==1⟩] })
def sp_add_kind (t:Adr):Sp:=fun vs H Q _=>∃H0 A y a b c d,vs=[.ref A.a,iN a,iN b,iN c,iN d]∧Draft t H0 H A y∧Good y∧ChgS t H0 H A Q (addKindR y a b c d)
theorem ok_add_kind (F:Fun K "add_kind" "add_kind" s_add_kind f fd) (T:Txt K mg t) (F_names_missing_kind:Fd P w K mg base "names_missing_kind" 1 ["yard","bits"] (sp_names_missing_kind t)) (M_Kind:Md P w K mg base "Kind" t.cKind 1 ["self","kg","minutes","needs","harm"] (sp_Kind t)) :
  FnOk P w K mg base CX0 3 f fd ["yard","kg","minutes","needs","harm"] (sp_add_kind t):=by
 refine F.ok sc_add_kind (fun vs H Q E h=>?_) (fun cdv _ outer s H vs Q E hr h=>?_)
 ·obtain ⟨H0,A,y,a,b,c,d,rfl,_⟩:=h;rfl
 ·obtain ⟨H0,A,y,a,b,c,d,rfl,hd,g,kk⟩:=h
  have nd:=sc_add_kind.nd
  refine ⟨_,(pss_cons (ps_if (PW.pt (pw_or (pt_cmpR op_lt (pv 1) pe_int (nomark _)) (pw_or (pt_cmpR op_gt (pv 1) (pe_gi rfl T.g_MOST_KIND_KG) (nomark _)) (pw_or (pt_cmpR op_lt (pv 2) pe_int (nomark _)) (pw_or1 (pt_cmpR op_gt (pv 2) (pe_gi rfl T.g_MOST_MINUTES) (nomark _))))))) (pss_one (ps_ret (pe_gi rfl T.g_NOT_AS_TOLD))) pss_nil) (pss_cons (ps_if (PW.pt (pw_or (pt_val (pe_fn F_names_missing_kind (hr.mono (by decide)) rfl (pa_cons (pv 0) (pa_cons (pv 3) pa_nil)))) (pw_or1 (pt_cmpR op_gt (pv 4) pe_int (nomark _))))) (pss_one (ps_ret (pe_gi rfl T.g_NOT_AS_TOLD))) pss_nil) (pss_cons (ps_if (pt_cmpR op_gt (pe_callB (call_lenK K) (by rfl) T.b_len PySem.boot_len (pa_cons (pe_fldK K (pv 0) rfl) pa_nil)) pe_int (nomark _)) (pss_one (ps_ret (pe_gi rfl T.g_IN_THE_WAY))) pss_nil) (pss_cons (ps_if (pt_cmpR op_eq (pe_callB (call_lenK K) (by rfl) T.b_len PySem.boot_len (pa_cons (pe_fldK K (pv 0) rfl) pa_nil)) (pe_gi rfl T.g_MOST_KINDS) (nomark _)) (pss_one (ps_ret (pe_gi rfl T.g_NO_ROOM))) pss_nil) (pss_cons (ps_expr (pe_bmK K PySem.F.plainAttrs_list PySem.F.slot_list_append PySem.F.type_list_append mt_append (pe_fldK K (pv 0) rfl) (pa_cons (pe_mk M_Kind (hr.mono (by decide)) rfl (pa_cons (pv 1) (pa_cons (pv 2) (pa_cons (pv 3) (pa_cons (pv 4) pa_nil))))) pa_nil))) (pss_one (ps_ret (pe_op op_sub (pe_callB (call_lenK K) (by rfl) T.b_len PySem.boot_len (pa_cons (pe_fldK K (pv 0) rfl) pa_nil)) pe_int)))))))),?_⟩
  obtain ⟨dy,hme⟩:=hd.at_.me
  have hkl:=hd.at_.kl
  have hml:=hd.at_.ml
  have hkn:=hd.at_.kn
  have hmn:=hd.at_.mn
  unfold addKindR at kk
  walk_at "rd"
  show if decide ((a:Int) < 1)=true then _ else _
  rw [show decide ((a:Int) < 1)=decide (a=0) by rw [Bool.eq_iff_iff,decide_eq_true_iff,decide_eq_true_iff];omega]
  by_cases h1:a=0
  ·rw [decide_eq_true h1]
   rw [if_pos (.inl h1)] at kk
   exact iteT (iteT (kk.1 H rfl (Same.refl H)))
  rw [decide_eq_false h1]
  refine iteF ?_
  walk_at "rd"
  show if decide ((500:Int) < (a:Int))=true then _ else _
  rw [show decide ((500:Int) < (a:Int))=decide (500 < a) from dec_ltN 500 a rfl rfl]
  by_cases h2:500 < a
  ·rw [decide_eq_true h2]
   rw [if_pos (.inr (.inl h2))] at kk
   exact iteT (iteT (kk.1 H rfl (Same.refl H)))
  rw [decide_eq_false h2]
  refine iteF ?_
  walk_at "rd"
  show if decide ((b:Int) < 1)=true then _ else _
  rw [show decide ((b:Int) < 1)=decide (b=0) by rw [Bool.eq_iff_iff,decide_eq_true_iff,decide_eq_true_iff];omega]
  by_cases h3:b=0
  ·rw [decide_eq_true h3]
   rw [if_pos (.inr (.inr (.inl h3)))] at kk
   exact iteT (iteT (kk.1 H rfl (Same.refl H)))
  rw [decide_eq_false h3]
  refine iteF ?_
  walk_at "rd"
  show if decide ((600:Int) < (b:Int))=true then _ else _
  rw [show decide ((600:Int) < (b:Int))=decide (600 < b) from dec_ltN 600 b rfl rfl]
  by_cases h4:600 < b
  ·rw [decide_eq_true h4]
   rw [if_pos (.inr (.inr (.inr (.inl h4))))] at kk
   exact iteT (kk.1 H rfl (Same.refl H))
  rw [decide_eq_false h4]
  refine iteF ?_
  walk_at "rd"
  refine ⟨A,y,c,rfl,hd.at_,_,rfl,?_⟩
  by_cases h5:2^y.types.length≤c
  ·rw [decide_eq_true h5]
   rw [if_pos (.inr (.inr (.inr (.inr (.inl h5)))))] at kk
   exact iteT (iteT (kk.1 H rfl (Same.refl H)))
  rw [decide_eq_false h5]
  refine iteF ?_
  walk_at "rd"
  show if decide ((1:Int) < (d:Int))=true then _ else _
  rw [show decide ((1:Int) < (d:Int))=decide (1 < d) from dec_ltN 1 d rfl rfl]
  by_cases h6:1 < d
  ·rw [decide_eq_true h6]
   rw [if_pos (.inr (.inr (.inr (.inr (.inr h6)))))] at kk
   exact iteT (kk.1 H rfl (Same.refl H))
  rw [decide_eq_false h6]
  rw [if_neg (by rintro (q | q | q | q | q | q);exact h1 q;exact h2 q;exact h3 q;exact h4 q;exact h5 q;exact h6 q)] at kk
  refine iteF ?_
  walk_at "rd"
  show if decide ((0:Int) < (((A.ms.map V.ref).length:Nat):Int))=true then _ else _
  rw [show decide ((0:Int) < (((A.ms.map V.ref).length:Nat):Int))=decide (0 < (A.ms.map V.ref).length) from dec_ltN 0 _ rfl rfl,hmn]
  by_cases h7:y.models=[]
  ·rw [if_neg (fun q=>q h7)] at kk
   rw [decide_eq_false (by rw [h7];decide)]
   refine iteF ?_
   walk_at "rd"
   show if decide (V.int (((A.ks.map V.ref).length:Nat):Int)=V.int ((8:Nat):Int))=true then _ else _
   rw [dec_nat,hkn]
   have htl:=g.tl
   by_cases h8:y.types.length=8
   ·rw [decide_eq_true h8]
    rw [if_pos (by omega)] at kk
    exact iteT (kk.1 H rfl (Same.refl H))
   rw [decide_eq_false h8]
   rw [if_neg (by omega)] at kk
   refine iteF ?_
   walk_at "rd"
   refine ⟨.inl ⟨rfl,_,SqL.of hkl⟩,?_⟩
   walk_at "rd"
   intro x dx hx hdx hne
   have hbit:d=Km415.bit (d==1):=by
    have:d=0∨d=1:=by omega
    rcases this with rfl | rfl <;> rfl
   refine ⟨x,dx,⟨a,b,c,d==1⟩,by show [V.ref x,iN a,iN b,iN c,iN d]=[V.ref x,iN a,iN b,iN c,iN (Km415.bit (d==1))];rw [←hbit],upd_same,fun H1 kp hx1=>⟨rfl,?_⟩⟩
   have s1:=made_same hx hdx kp
   have hkl1:=s1 _ _ hkl
   refine ⟨A.kl,_,.ref x,rfl,rfl,hkl1,small (by rw [hkn];omega),?_⟩
   have hd1:=hd.grow s1
   have hl2:(upd H1 A.kl (.lst (A.ks.map V.ref++[.ref x]))) A.kl=some (.lst ((A.ks++[x]).map V.ref)):=by rw [upd_same,List.map_append];rfl
   have hz2:KindAt t (upd H1 A.kl (.lst (A.ks.map V.ref++[.ref x]))) x ⟨a,b,c,d==1⟩:=⟨dx,by rw [upd_ne (ne_il hx1 hkl1)];exact hx1⟩
   have hd2:=hd1.addKind hz2 hl2 (Keep.upd _ _ _)
   generalize upd H1 A.kl (.lst (A.ks.map V.ref++[.ref x]))=H2 at hd2 hl2
   obtain ⟨dy2,hme2⟩:=hd2.at_.me
   have hme2':H2 A.a=some (.ins t.cYard dy2 (yardF { A with ks:=A.ks++[x] } { y with types:=y.types++[⟨a,b,c,d==1⟩] })):=hme2
   walk_at "rd"
   rw [List.map_append,List.length_append,hkn]
   have e:((y.types.length+1:Nat):Int) - 1=((y.types.length:Nat):Int):=by omega
   show Q (V.int (((y.types.length+1:Nat):Int) - 1)) H2
   rw [e]
   exact kk.2 _ _ _ rfl hd2 rfl
  ·rw [if_pos h7] at kk
   have:0 < y.models.length:=List.length_pos_iff.mpr h7
   rw [decide_eq_true this]
   exact iteT (kk.1 H rfl (Same.refl H))
end
end Y58
namespace Y58
open PySem PySem.Spec PyProof.Rows L2
section
variable {P:Program} {w:World} {K:PySem.W.Frag} {mg:Str→Option Value} {base:Heap} {t:Adr} {f:Addr} {fd:FuncData}
theorem kgs_le {y:Km415.Yard} (g:Good y) {b:Nat} (hb:b < 2^y.types.length):Km415.sum ((Km415.kinds 8 b).map y.kgOf)≤y.all:=by
 have sp:=kgs_split y (h:=2^y.types.length - 1) (b:=b) (fun t ht=>by
  rw [Nat.testBit_two_pow_sub_one]
  exact decide_eq_true (lt_of_testBit hb ht))
 rw [kgs_all y g.tl] at sp
 have e:Km415.sum ((Km415.kinds 8 b).map y.kgOf)=kgs y b:=rfl
 rw [e];omega
def addCarR (y:Km415.Yard) (m b:Nat):Int×Option Km415.Yard:=match y.models[m]? with
 | none=>(-2,none)
 | some x=>if 2^y.types.length≤b then (-22,none) else if 8≤y.cars.length then (-28,none) else
  (((y.cars.length:Nat):Int),some { y with cars:=y.cars++[⟨m,2^y.types.length - 1 - b,x.litres,x.kg - Km415.sum ((Km415.kinds 8 b).map y.kgOf),false⟩],came:=y.came+(x.kg - Km415.sum ((Km415.kinds 8 b).map y.kgOf)),pumped:=y.pumped+x.litres })
theorem ok_add_car (F:Fun K "add_car" "add_car" s_add_car f fd) (T:Txt K mg t) (F_model_is_there:Fd P w K mg base "model_is_there" 1 ["yard","m"] (sp_model_is_there t)) (F_names_missing_kind:Fd P w K mg base "names_missing_kind" 1 ["yard","bits"] (sp_names_missing_kind t))
  (F_kilograms_of:Fd P w K mg base "kilograms_of" 2 ["yard","bits"] (sp_kilograms_of t)) (M_Car:Md P w K mg base "Car" t.cCar 1 ["self","model","has","litres","kg"] (sp_Car t)) :
  FnOk P w K mg base CX0 3 f fd ["yard","m","lacks"] (sp_chg2 t addCarR):=by
 refine F.ok sc_add_car (fun vs H Q E h=>?_) (fun cdv _ outer s H vs Q E hr h=>?_)
 ·obtain ⟨H0,A,y,j,k,rfl,_⟩:=h;rfl
 ·obtain ⟨H0,A,y,m,b,rfl,hd,g,kk⟩:=h
  have nd:=sc_add_car.nd
  obtain ⟨dy,hme⟩:=hd.at_.me
  have hkl:=hd.at_.kl
  have hml:=hd.at_.ml
  have hcl:=hd.at_.cl
  have hkn:=hd.at_.kn
  have hcn:=hd.at_.cn
  have htl:=g.tl
  have hc8:=g.cl
  refine ⟨_,(pss_cons (ps_if (pt_not (pt_val (pe_fn F_model_is_there (hr.mono (by decide)) rfl (pa_cons (pv 0) (pa_cons (pv 1) pa_nil))))) (pss_one (ps_ret (pe_gi rfl T.g_NOT_THERE))) pss_nil) (pss_cons (ps_if (pt_val (pe_fn F_names_missing_kind (hr.mono (by decide)) rfl (pa_cons (pv 0) (pa_cons (pv 2) pa_nil)))) (pss_one (ps_ret (pe_gi rfl T.g_NOT_AS_TOLD))) pss_nil) (pss_cons (ps_if (pt_cmpR op_eq (pe_callB (call_lenK K) (by rfl) T.b_len PySem.boot_len (pa_cons (pe_fldK K (pv 0) rfl) pa_nil)) (pe_gi rfl T.g_MOST_CARS) (nomark _)) (pss_one (ps_ret (pe_gi rfl T.g_NO_ROOM))) pss_nil) (pss_cons (ps_set (i:=3) nd rfl (by walk_at "lo") (pe_ix (ix_listK K) (pe_fldK K (pv 0) rfl) (pv 1) (fun _ _=>rfl))) (pss_cons (ps_set (i:=4) nd rfl (by walk_at "lo") (pe_op op_sub (pe_op op_shl pe_int (pe_callB (call_lenK K) (by rfl) T.b_len PySem.boot_len (pa_cons (pe_fldK K (pv 0) rfl) pa_nil))) pe_int)) (pss_cons (ps_set (i:=5) nd rfl (by walk_at "lo") (pe_mk M_Car (hr.mono (by decide)) rfl (pa_cons (pv 1) (pa_cons (pe_op op_and (pv 4) (pe_un un_inv (pv 2))) (pa_cons (pe_fldK K (pv 3) rfl) (pa_cons (pe_op op_sub (pe_fldK K (pv 3) rfl) (pe_fn F_kilograms_of (hr.mono (by decide)) rfl (pa_cons (pv 0) (pa_cons (pv 2) pa_nil)))) pa_nil)))))) (pss_cons (ps_expr (pe_bmK K PySem.F.plainAttrs_list PySem.F.slot_list_append PySem.F.type_list_append mt_append (pe_fldK K (pv 0) rfl) (pa_cons (pv 5) pa_nil))) (pss_cons (ps_fldaugK K (pv 0) (pe_fldK K (pv 5) rfl) in_add) (pss_cons (ps_fldaugK K (pv 0) (pe_fldK K (pv 5) rfl) in_add) (pss_one (ps_ret (pe_op op_sub (pe_callB (call_lenK K) (by rfl) T.b_len PySem.boot_len (pa_cons (pe_fldK K (pv 0) rfl) pa_nil)) pe_int)))))))))))),?_⟩
  walk_at "rd"
  refine ⟨A,y,m,rfl,hd.at_,_,rfl,?_⟩
  unfold addCarR at kk
  by_cases hm:m < y.models.length
  ·have hx:y.models[m]?=some y.models[m]:=List.getElem?_eq_getElem hm
   rw [hx] at kk
   generalize y.models[m]=x at hx kk
   have kk1:ChgS t H0 H A Q (if 2^y.types.length≤b then (-22,none) else if 8≤y.cars.length then (-28,none) else (((y.cars.length:Nat):Int),some { y with cars:=y.cars++[⟨m,2^y.types.length - 1 - b,x.litres,x.kg - Km415.sum ((Km415.kinds 8 b).map y.kgOf),false⟩],came:=y.came+(x.kg - Km415.sum ((Km415.kinds 8 b).map y.kgOf)),pumped:=y.pumped+x.litres })):=kk
   rw [decide_eq_true hm]
   refine iteF ?_
   walk_at "rd"
   refine ⟨A,y,b,rfl,hd.at_,_,rfl,?_⟩
   by_cases h1:2^y.types.length≤b
   ·rw [decide_eq_true h1]
    rw [if_pos h1] at kk1
    exact iteT (kk1.1 H rfl (Same.refl H))
   rw [decide_eq_false h1]
   rw [if_neg h1] at kk1
   have hb:b < 2^y.types.length:=Nat.lt_of_not_le h1
   refine iteF ?_
   walk_at "rd"
   show if decide (V.int (((A.cs.map V.ref).length:Nat):Int)=V.int ((8:Nat):Int))=true then _ else _
   rw [dec_nat,hcn]
   by_cases h2:y.cars.length=8
   ·rw [decide_eq_true h2]
    rw [if_pos (by omega)] at kk1
    exact iteT (kk1.1 H rfl (Same.refl H))
   rw [decide_eq_false h2]
   rw [if_neg (by omega)] at kk1
   refine iteF ?_
   obtain ⟨bm,dm,gm,hbm,hmo,hgm⟩:=hd.at_.model hx
   walk_at "rd"
   rw [hkn]
   refine ⟨⟨by omega,by omega,by decide⟩,?_⟩
   walk_at "rd"
   refine ⟨A,y,b,rfl,hd.at_,htl,hb,fun H1 s1=>?_⟩
   walk_at "rd"
   intro xx dx hxx hdx hne
   have hkg:=kgs_le g hb
   have hall:=(g.mo m x hx).1
   have e1:V.int (Builtin.bitAnd ((1:Int) * 2^((y.types.length:Nat):Int).toNat - 1) (Builtin.bitNot (b:Int)))=iN (2^y.types.length - 1 - b):=by
    have hp:=Nat.two_pow_pos y.types.length
    rw [pow_nat,show ((2^y.types.length:Nat):Int) - 1=((2^y.types.length - 1:Nat):Int) by omega,andNot_nat,←all_less _ _ hb]
   have e2:V.int ((x.kg:Int) - ((Km415.sum ((Km415.kinds 8 b).map y.kgOf):Nat):Int))=iN (x.kg - Km415.sum ((Km415.kinds 8 b).map y.kgOf)):=by
    rw [show (x.kg:Int) - ((Km415.sum ((Km415.kinds 8 b).map y.kgOf):Nat):Int)=((x.kg - Km415.sum ((Km415.kinds 8 b).map y.kgOf):Nat):Int) by omega]
   refine ⟨xx,dx,⟨m,2^y.types.length - 1 - b,x.litres,x.kg - Km415.sum ((Km415.kinds 8 b).map y.kgOf),false⟩,?_,rfl,upd_same,fun H2 kp hx1=>⟨rfl,?_⟩⟩
   ·show [V.ref xx,iN m,V.int (Builtin.bitAnd ((1:Int) * 2^((y.types.length:Nat):Int).toNat - 1) (Builtin.bitNot (b:Int))),iN x.litres,V.int ((x.kg:Int) - ((Km415.sum ((Km415.kinds 8 b).map y.kgOf):Nat):Int))]=_
    rw [e1,e2]
   have s2:=made_same hxx hdx kp
   have s3:=s1.trans s2
   have hcl2:=s3 _ _ hcl
   have hme2:=s3 _ _ hme
   clear hme hcl hml hkl
   walk_at "rd"
   refine ⟨.inl ⟨rfl,_,SqL.of hcl2⟩,?_⟩
   walk_at "rd"
   refine ⟨A.cl,_,.ref xx,rfl,rfl,hcl2,small (by rw [hcn];omega),?_⟩
   have hd1:=hd.grow s1
   have hd2:=hd.grow s3
   have hH0:H0 xx=none:=by
    cases q:H0 xx with
    | none=>rfl
    | some o=>rw [hd1.same _ _ q] at hxx;cases hxx
   have hnc:xx ∉ A.cs:=fun q=>by
    obtain ⟨i,hi,e⟩:=List.getElem_of_mem q
    obtain ⟨c,_,⟨d,hdd⟩⟩:=paired_get' hd1.at_.cs (show A.cs[i]?=some xx by rw [List.getElem?_eq_getElem hi,e])
    rw [hdd] at hxx;cases hxx
   have hl3:(upd H2 A.cl (.lst (A.cs.map V.ref++[.ref xx]))) A.cl=some (.lst ((A.cs++[xx]).map V.ref)):=by rw [upd_same,List.map_append];rfl
   have hz3:CarAt t (upd H2 A.cl (.lst (A.cs.map V.ref++[.ref xx]))) xx ⟨m,2^y.types.length - 1 - b,x.litres,x.kg - Km415.sum ((Km415.kinds 8 b).map y.kgOf),false⟩:=⟨dx,by rw [upd_ne (ne_il hx1 hcl2)];exact hx1⟩
   have hd3:=hd2.addCar hz3 hH0 hnc hl3 (Keep.upd _ _ _)
   generalize upd H2 A.cl (.lst (A.cs.map V.ref++[.ref xx]))=H3 at hd3 hl3 hz3
   clear hme2 hcl2 hx1
   obtain ⟨dy3,hme3⟩:=hd3.at_.me
   obtain ⟨dx3,hx3⟩:=hz3
   have hme3':H3 A.a=some (.ins t.cYard dy3 (yardF { A with cs:=A.cs++[xx] } { y with cars:=y.cars++[⟨m,2^y.types.length - 1 - b,x.litres,x.kg - Km415.sum ((Km415.kinds 8 b).map y.kgOf),false⟩] })):=hme3
   clear hme3
   walk_at "rd"
   refine rd_aug hme3' T.cl_Yard T.n_Yard_came_kg rfl ?_
   walk_at "rd"
   refine rd_put hme3' (by show 12 < 1000;decide) (show putF "came_kg" (V.int ((y.came:Int)+((x.kg - Km415.sum ((Km415.kinds 8 b).map y.kgOf)):Nat))) (yardF { A with cs:=A.cs++[xx] } { y with cars:=y.cars++[⟨m,2^y.types.length - 1 - b,x.litres,x.kg - Km415.sum ((Km415.kinds 8 b).map y.kgOf),false⟩] })=yardF { A with cs:=A.cs++[xx] } { y with cars:=y.cars++[⟨m,2^y.types.length - 1 - b,x.litres,x.kg - Km415.sum ((Km415.kinds 8 b).map y.kgOf),false⟩],came:=y.came+(x.kg - Km415.sum ((Km415.kinds 8 b).map y.kgOf)) } by rw [←Int.natCast_add];rfl) ?_
   have hd4:=hd3.setMe (y':={ y with cars:=y.cars++[⟨m,2^y.types.length - 1 - b,x.litres,x.kg - Km415.sum ((Km415.kinds 8 b).map y.kgOf),false⟩],came:=y.came+(x.kg - Km415.sum ((Km415.kinds 8 b).map y.kgOf)) }) (H':=upd H3 A.a (.ins t.cYard dy3 (yardF { A with cs:=A.cs++[xx] } { y with cars:=y.cars++[⟨m,2^y.types.length - 1 - b,x.litres,x.kg - Km415.sum ((Km415.kinds 8 b).map y.kgOf),false⟩],came:=y.came+(x.kg - Km415.sum ((Km415.kinds 8 b).map y.kgOf)) }))) rfl rfl rfl rfl ⟨dy3,upd_same⟩ (Keep.upd _ _ _)
   have hx4:(upd H3 A.a (.ins t.cYard dy3 (yardF { A with cs:=A.cs++[xx] } { y with cars:=y.cars++[⟨m,2^y.types.length - 1 - b,x.litres,x.kg - Km415.sum ((Km415.kinds 8 b).map y.kgOf),false⟩],came:=y.came+(x.kg - Km415.sum ((Km415.kinds 8 b).map y.kgOf)) }))) xx=some (.ins t.cCar dx3 (carF ⟨m,2^y.types.length - 1 - b,x.litres,x.kg - Km415.sum ((Km415.kinds 8 b).map y.kgOf),false⟩)):=by rw [upd_ne (ne_fs hx3 hme3' (by show 5≠12;decide))];exact hx3
   generalize upd H3 A.a (.ins t.cYard dy3 (yardF { A with cs:=A.cs++[xx] } { y with cars:=y.cars++[⟨m,2^y.types.length - 1 - b,x.litres,x.kg - Km415.sum ((Km415.kinds 8 b).map y.kgOf),false⟩],came:=y.came+(x.kg - Km415.sum ((Km415.kinds 8 b).map y.kgOf)) }))=H4 at hd4 hx4
   clear hme3' hx3
   obtain ⟨dy4,hme4⟩:=hd4.at_.me
   have hme4':H4 A.a=some (.ins t.cYard dy4 (yardF { A with cs:=A.cs++[xx] } { y with cars:=y.cars++[⟨m,2^y.types.length - 1 - b,x.litres,x.kg - Km415.sum ((Km415.kinds 8 b).map y.kgOf),false⟩],came:=y.came+(x.kg - Km415.sum ((Km415.kinds 8 b).map y.kgOf)) })):=hme4
   clear hme4
   walk_at "rd"
   refine rd_aug hme4' T.cl_Yard T.n_Yard_came_litres rfl ?_
   walk_at "rd"
   refine rd_put hme4' (by show 12 < 1000;decide) (show putF "came_litres" (V.int ((y.pumped:Int)+(x.litres:Nat))) (yardF { A with cs:=A.cs++[xx] } { y with cars:=y.cars++[⟨m,2^y.types.length - 1 - b,x.litres,x.kg - Km415.sum ((Km415.kinds 8 b).map y.kgOf),false⟩],came:=y.came+(x.kg - Km415.sum ((Km415.kinds 8 b).map y.kgOf)) })=yardF { A with cs:=A.cs++[xx] } { y with cars:=y.cars++[⟨m,2^y.types.length - 1 - b,x.litres,x.kg - Km415.sum ((Km415.kinds 8 b).map y.kgOf),false⟩],came:=y.came+(x.kg - Km415.sum ((Km415.kinds 8 b).map y.kgOf)),pumped:=y.pumped+x.litres } by rw [←Int.natCast_add];rfl) ?_
   have hd5:=hd4.setMe (y':={ y with cars:=y.cars++[⟨m,2^y.types.length - 1 - b,x.litres,x.kg - Km415.sum ((Km415.kinds 8 b).map y.kgOf),false⟩],came:=y.came+(x.kg - Km415.sum ((Km415.kinds 8 b).map y.kgOf)),pumped:=y.pumped+x.litres }) (H':=upd H4 A.a (.ins t.cYard dy4 (yardF { A with cs:=A.cs++[xx] } { y with cars:=y.cars++[⟨m,2^y.types.length - 1 - b,x.litres,x.kg - Km415.sum ((Km415.kinds 8 b).map y.kgOf),false⟩],came:=y.came+(x.kg - Km415.sum ((Km415.kinds 8 b).map y.kgOf)),pumped:=y.pumped+x.litres }))) rfl rfl rfl rfl ⟨dy4,upd_same⟩ (Keep.upd _ _ _)
   generalize upd H4 A.a (.ins t.cYard dy4 (yardF { A with cs:=A.cs++[xx] } { y with cars:=y.cars++[⟨m,2^y.types.length - 1 - b,x.litres,x.kg - Km415.sum ((Km415.kinds 8 b).map y.kgOf),false⟩],came:=y.came+(x.kg - Km415.sum ((Km415.kinds 8 b).map y.kgOf)),pumped:=y.pumped+x.litres }))=H5 at hd5
   clear hme4' hx4
   obtain ⟨dy5,hme5⟩:=hd5.at_.me
   have hme5':H5 A.a=some (.ins t.cYard dy5 (yardF { A with cs:=A.cs++[xx] } { y with cars:=y.cars++[⟨m,2^y.types.length - 1 - b,x.litres,x.kg - Km415.sum ((Km415.kinds 8 b).map y.kgOf),false⟩],came:=y.came+(x.kg - Km415.sum ((Km415.kinds 8 b).map y.kgOf)),pumped:=y.pumped+x.litres })):=hme5
   have hl5:H5 A.cl=some (.lst ((A.cs++[xx]).map V.ref)):=hd5.at_.cl
   clear hme5
   walk_at "rd"
   rw [List.map_append,List.length_append,hcn]
   have e:((y.cars.length+1:Nat):Int) - 1=((y.cars.length:Nat):Int):=by omega
   show Q (V.int (((y.cars.length+1:Nat):Int) - 1)) H5
   rw [e]
   exact kk1.2 _ _ _ rfl hd5 rfl
  ·rw [List.getElem?_eq_none (by omega)] at kk
   rw [decide_eq_false hm]
   exact iteT (kk.1 H rfl (Same.refl H))
end
end Y58
namespace Y58
open PySem PySem.Spec PyProof.Rows L2
section
variable {P:Program} {w:World} {K:PySem.W.Frag} {mg:Str→Option Value} {base:Heap} {t:Adr} {f:Addr} {fd:FuncData}
def addModelR (y:Km415.Yard) (g l:Nat) (q:List Nat):Int×Option Km415.Yard:=if g < y.all∨5000 < g∨100 < l∨q.any (fun x=>decide (9 < x))=true then (-22,none) else if 6≤y.models.length then (-28,none) else (((y.models.length:Nat):Int),some { y with models:=y.models++[⟨g,l,q⟩] })
def sp_add_model (t:Adr):Sp:=fun vs H Q _=>∃H0 A y a b gl q,vs=[.ref A.a,iN a,iN b,.ref gl]∧Draft t H0 H A y∧Good y∧H gl=some (.lst (q.map iN))∧gl≠A.ml∧q.length=8∧ChgS t H0 H A Q (addModelR y a b q)
theorem ok_add_model (F:Fun K "add_model" "add_model" s_add_model f fd) (T:Txt K mg t) (M_Model:Md P w K mg base "Model" t.cModel 1 ["self","kg","litres","groups"] (sp_Model t)) :
  FnOk P w K mg base CX0 3 f fd ["yard","kg","litres","groups"] (sp_add_model t):=by
 refine F.ok sc_add_model (fun vs H Q E h=>?_) (fun cdv _ outer s H vs Q E hr h=>?_)
 ·obtain ⟨H0,A,y,a,b,gl,q,rfl,_⟩:=h;rfl
 ·obtain ⟨H0,A,y,a,b,gl,q,rfl,hd,g,hgl,hne0,hq8,kk⟩:=h
  have nd:=sc_add_model.nd
  obtain ⟨dy,hme⟩:=hd.at_.me
  have hkl:=hd.at_.kl
  have hml:=hd.at_.ml
  have hkn:=hd.at_.kn
  have hmn:=hd.at_.mn
  have htl:=g.tl
  have hm6:=g.ml
  unfold addModelR at kk
  refine ⟨_,(pss_cons (ps_set (i:=4) nd rfl (by walk_at "lo") (pe_callB (cr_sumK K rfl) (by rfl) T.b_sum PyProof.Rows.boot_sum (pa_cons (pe_lc rfl nd (pi_listK K (pe_fldK K (pv 0) rfl)) (blkOk_by (own:=[("kind",5)]) rfl) (fun _ _ _ _ _=>(pg_name (i:=5) nd rfl (by walk_at "lo"))) (fun _ _ _ _ _=>pts_nil) (fun _ _ _ _ _=>(pe_fldK K (pv 5) rfl))) pa_nil))) (pss_cons (ps_if (PW.pt (pw_or (pt_cmpR op_lt (pv 1) (pv 4) (nomark _)) (pw_or (pt_cmpR op_gt (pv 1) (pe_gi rfl T.g_MOST_MODEL_KG) (nomark _)) (pw_or (pt_cmpR op_gt (pv 2) (pe_gi rfl T.g_MOST_MODEL_LITRES) (nomark _)) (pw_or1 (pt_cmpR op_gt (pe_callB (cr_maxK K rfl) (by rfl) T.b_max PyProof.Rows.boot_max (pa_cons (pv 3) pa_nil)) (pe_gi rfl T.g_MOST_GROUP) (nomark _))))))) (pss_one (ps_ret (pe_gi rfl T.g_NOT_AS_TOLD))) pss_nil) (pss_cons (ps_if (pt_cmpR op_eq (pe_callB (call_lenK K) (by rfl) T.b_len PySem.boot_len (pa_cons (pe_fldK K (pv 0) rfl) pa_nil)) (pe_gi rfl T.g_MOST_MODELS) (nomark _)) (pss_one (ps_ret (pe_gi rfl T.g_NO_ROOM))) pss_nil) (pss_cons (ps_expr (pe_bmK K PySem.F.plainAttrs_list PySem.F.slot_list_append PySem.F.type_list_append mt_append (pe_fldK K (pv 0) rfl) (pa_cons (pe_mk M_Model (hr.mono (by decide)) rfl (pa_cons (pv 1) (pa_cons (pv 2) (pa_cons (pe_callTy (call_tupleK K) (by rfl) T.b_tuple PyProof.Rows.boot_tuple (pa_cons (pv 3) pa_nil)) pa_nil)))) pa_nil))) (pss_one (ps_ret (pe_op op_sub (pe_callB (call_lenK K) (by rfl) T.b_len PySem.boot_len (pa_cons (pe_fldK K (pv 0) rfl) pa_nil)) pe_int))))))),?_⟩
  walk_at "rd"
  refine ⟨⟨_,SqL.of hkl⟩,fun D hD=>?_⟩
  refine lc_list (K:=K) (a:=A.kl) (xs:=A.ks.map V.ref) (fun i H'=>Same H H'∧H' D=some (.lst ((((y.types.take i).map fun x=>x.kg)).map iN))) ⟨same_new hD,upd_same⟩ (fun i H' _ ⟨s2,_⟩=>SqL.of (s2 _ _ hkl)) ?_ ?_
  ·rintro i x H' hx ⟨s2,hD'⟩
   obtain ⟨n,hn,rfl⟩:=map_get hx
   obtain ⟨z,hz,⟨dz,hk⟩⟩:=paired_get' (hd.at_.same s2).ks hn
   refine ⟨rfl,?_⟩
   walk_at "rd"
   refine ⟨_,hD',small ?_,same_upd s2 hD,?_⟩
   ·rw [List.length_map,List.length_map,List.length_take]
    omega
   ·rw [upd_same,take_snoc hz,List.map_append,List.map_append]
    rfl
  rintro H1 ⟨s1,hD1⟩
  have etk:y.types.take (A.ks.map V.ref).length=y.types:=by rw [hkn,List.take_length]
  rw [etk] at hD1
  refine ⟨D,(y.types.map fun x=>x.kg).map fun (n:Nat)=>(n:Int),rfl,SqL.of (by rw [hD1,iN_int]),?_⟩
  rw [sum_int]
  have hd1:=hd.grow s1
  have hme1:=s1 _ _ hme
  have hml1:=s1 _ _ hml
  have hgl1:=s1 _ _ hgl
  have eall:Km415.sum (y.types.map fun x=>x.kg)=y.all:=rfl
  rw [eall]
  clear hme hml hgl
  walk_at "rd"
  show if decide ((a:Int) < ((y.all:Nat):Int))=true then _ else _
  rw [dec_lt]
  by_cases h1:a < y.all
  ·rw [decide_eq_true h1]
   rw [if_pos (.inl h1)] at kk
   exact iteT (iteT (kk.1 H1 rfl s1))
  rw [decide_eq_false h1]
  refine iteF ?_
  walk_at "rd"
  show if decide ((5000:Int) < (a:Int))=true then _ else _
  rw [show decide ((5000:Int) < (a:Int))=decide (5000 < a) from dec_ltN 5000 a rfl rfl]
  by_cases h2:5000 < a
  ·rw [decide_eq_true h2]
   rw [if_pos (.inr (.inl h2))] at kk
   exact iteT (iteT (kk.1 H1 rfl s1))
  rw [decide_eq_false h2]
  refine iteF ?_
  walk_at "rd"
  show if decide ((100:Int) < (b:Int))=true then _ else _
  rw [show decide ((100:Int) < (b:Int))=decide (100 < b) from dec_ltN 100 b rfl rfl]
  by_cases h3:100 < b
  ·rw [decide_eq_true h3]
   rw [if_pos (.inr (.inr (.inl h3)))] at kk
   exact iteT (iteT (kk.1 H1 rfl s1))
  rw [decide_eq_false h3]
  refine iteF ?_
  walk_at "rd"
  refine ⟨gl,q.map fun (n:Nat)=>(n:Int),rfl,SqL.of (by rw [hgl1,iN_int]),by rw [List.length_map,hq8];decide,fun mx hm1 hm2=>?_⟩
  walk_at "rd"
  show if decide ((9:Int) < mx)=true then _ else _
  have emx:decide ((9:Int) < mx)=q.any (fun x=>decide (9 < x)):=by
   rw [Bool.eq_iff_iff,decide_eq_true_iff,List.any_eq_true]
   constructor
   ·intro h
    obtain ⟨n,hn,e⟩:=List.mem_map.mp hm1
    exact ⟨n,hn,decide_eq_true (by omega)⟩
   ·rintro ⟨n,hn,h⟩
    have h':=of_decide_eq_true h
    have:=hm2 (n:Int) (List.mem_map.mpr ⟨n,hn,rfl⟩)
    omega
  rw [emx]
  by_cases h4:q.any (fun x=>decide (9 < x))=true
  ·rw [if_pos (.inr (.inr (.inr h4)))] at kk
   rw [h4]
   exact iteT (kk.1 H1 rfl s1)
  rw [if_neg (by rintro (z | z | z | z);exact h1 z;exact h2 z;exact h3 z;exact h4 z)] at kk
  rw [Bool.not_eq_true _ |>.mp h4]
  refine iteF ?_
  walk_at "rd"
  show if decide (V.int (((A.ms.map V.ref).length:Nat):Int)=V.int ((6:Nat):Int))=true then _ else _
  rw [dec_nat,hmn]
  by_cases h5:y.models.length=6
  ·rw [decide_eq_true h5]
   rw [if_pos (by omega)] at kk
   exact iteT (kk.1 H1 rfl s1)
  rw [decide_eq_false h5]
  rw [if_neg (by omega)] at kk
  refine iteF ?_
  walk_at "rd"
  refine ⟨.inl ⟨rfl,_,SqL.of hml1⟩,?_⟩
  walk_at "rd"
  refine ⟨gl,_,rfl,.inl ⟨SqL.of hgl1,fun G hG=>?_⟩⟩
  have s2:Same H (upd H1 G (.tup (q.map iN))):=same_upd s1 (s1.free hG)
  have hG2:(upd H1 G (.tup (q.map iN))) G=some (.tup (q.map iN)):=upd_same
  have hml2:(upd H1 G (.tup (q.map iN))) A.ml=some (.lst (A.ms.map V.ref)):=by rw [upd_ne (ne_of_none hml1 hG)];exact hml1
  generalize upd H1 G (.tup (q.map iN))=H2 at s2 hG2 hml2
  walk_at "rd"
  intro xx dx hxx hdx hne
  refine ⟨xx,dx,⟨a,b,q⟩,G,rfl,upd_same,fun H3 kp hx1=>⟨rfl,?_⟩⟩
  have s3:=made_same hxx hdx kp
  have hml3:=s3 _ _ hml2
  have hG3:=s3 _ _ hG2
  refine ⟨A.ml,_,.ref xx,rfl,rfl,hml3,small (by rw [hmn];omega),?_⟩
  have hd3:=hd.grow (s2.trans s3)
  have hl4:(upd H3 A.ml (.lst (A.ms.map V.ref++[.ref xx]))) A.ml=some (.lst ((A.ms++[xx]).map V.ref)):=by rw [upd_same,List.map_append];rfl
  have hz4:ModelAt t (upd H3 A.ml (.lst (A.ms.map V.ref++[.ref xx]))) xx ⟨a,b,q⟩:=⟨dx,G,by rw [upd_ne (ne_il hx1 hml3)];exact hx1,by rw [upd_ne (ne_tl hG3 hml3)];exact hG3⟩
  have hd4:=hd3.addModel hz4 hl4 (Keep.upd _ _ _)
  generalize upd H3 A.ml (.lst (A.ms.map V.ref++[.ref xx]))=H4 at hd4 hl4
  obtain ⟨dy4,hme4⟩:=hd4.at_.me
  have hme4':H4 A.a=some (.ins t.cYard dy4 (yardF { A with ms:=A.ms++[xx] } { y with models:=y.models++[⟨a,b,q⟩] })):=hme4
  walk_at "rd"
  rw [List.map_append,List.length_append,hmn]
  have e:((y.models.length+1:Nat):Int) - 1=((y.models.length:Nat):Int):=by omega
  show Q (V.int (((y.models.length+1:Nat):Int) - 1)) H4
  rw [e]
  exact kk.2 _ _ _ rfl hd4 rfl
end
end Y58
namespace Y58
open PySem PySem.Spec PyProof.Rows L2
abbrev s_Yard_init:Stmt:=inClass (top 21) 0
theorem sc_Yard_init:FnScope ["self"] ["self"] (defScope s_Yard_init):=by walk_at "sc"
abbrev s_copied_yard:Stmt:=top 23
theorem sc_copied_yard:FnScope ["yard","twin","car"] ["yard"] (defScope s_copied_yard):=by walk_at "sc"
section
variable {P:Program} {w:World} {K:PySem.W.Frag} {mg:Str→Option Value} {base:Heap} {t:Adr} {f:Addr} {fd:FuncData}
section
variable {H0 H H':Hp} {A A':YA} {y y':Km415.Yard}
theorem Draft.none_of_less (h:Draft t H0 H A y) {b:Addr} (e:less H A b=none):H0 b=none:=by
 by_cases q:b∈owned A
 ·exact h.fresh q
 ·rw [less_out q] at e
  cases z:H0 b with
  | none=>rfl
  | some o=>rw [h.same b o z] at e;cases e
theorem Draft.backA (h:Draft t H0 H A y) (h':Draft t (less H A) H' A' y'):Draft t H0 H' A' y' :=
 ⟨h'.at_,fun b o e=>h'.same b o (by rw [less_out (fun q=>by rw [h.fresh q] at e;cases e)];exact h.same b o e),h.none_of_less h'.fa,h.none_of_less h'.fk,h.none_of_less h'.fm,h.none_of_less h'.fc,h.none_of_less h'.fs,fun b hb=>h.none_of_less (h'.fcs b hb),h'.ap⟩
theorem Draft.otherA (h':Draft t (less H A) H' A' y') {b:Addr} {o:HO} (e:H b=some o) (n:b ∉ owned A):H' b=some o:=h'.same b o (by rw [less_out n];exact e)
theorem TabL.draftA {Pt:Addr} (hT:TabL H Pt) (h:YardAt t H A y) (h':Draft t (less H A) H' A' y'):TabL H' Pt:=by
 rcases hT with q | ⟨c',q1,q2⟩
 ·exact .inl (Draft.otherA h' q (h.notOwn q (by intro C d fs z;cases z) (by intro xs z;cases z)))
 ·exact .inr ⟨c',Draft.otherA h' q1 (h.notOwn q1 (by intro C d fs z;cases z) (by intro xs z;cases z)),Draft.otherA h' q2 (h.notOwn q2 (by intro C d fs z;cases z) (by intro xs z;cases z))⟩
theorem Chg.small {Pt:Addr} {Q:VK} {r:Int×Option Km415.Yard} (k:Chg t Pt H0 A Q r) (h:Draft t H0 H A y) (hT:TabL H Pt):ChgS t (less H A) H A Q r :=
 ⟨fun H' e s=>k.1 H' e (h.same.trans s) (hT.same s),fun H' A' y' e d ea=>k.2 H' A' y' e (h.backA d) ea (hT.draftA h.at_ d)⟩
end
def NewStep (H:Hp) (x C dx k:Addr) (l:List V) (fs':List (Str×V)):Prop :=
 ∀R:Hp→Prop,(∀H',Keep x H H'→H' x=some (.ins C dx fs')→H' k=some (.lst l)→k≠x→R H')→R (upd (upd H k (.lst l)) x (.ins C dx fs'))
theorem new_step {f:Str} {H:Hp} {x C dx k:Addr} {l:List V} {fs fs':List (Str×V)} (hx:H x=some (.ins C dx fs)) (hk:H k=none):NewStep H x C dx k l fs':=fun R h =>
 have n:x≠k:=ne_of_none hx hk
 h _ ((Keep.same (same_new hk)).trans (Keep.upd _ _ _)) upd_same (by rw [upd_ne (fun e=>n e.symm),upd_same]) (fun e=>n e.symm)
theorem NewStep.on {H:Hp} {x C dx k:Addr} {l:List V} {fs':List (Str×V)} {R:Hp→Prop} (s:NewStep H x C dx k l fs') (h:∀H',Keep x H H'→H' x=some (.ins C dx fs')→H' k=some (.lst l)→k≠x→R H'):R (upd (upd H k (.lst l)) x (.ins C dx fs')):=s R h
theorem paired_rep {H:Hp}:∀n:Nat,Paired (PartAt H) (List.replicate n V.non) (List.replicate n none)
 | 0=>.nil
 | n+1=>.cons rfl (paired_rep n)
def sp_Yard (t:Adr):Sp:=fun vs H Q _=>∃(x dx:Addr),vs=[.ref x]∧H x=some (.ins t.cYard dx [])∧∀H' A,A.a=x→Keep x H H'→H A.kl=none→H A.ml=none→H A.cl=none→H A.sl=none→[A.kl,A.ml,A.cl,A.sl].Nodup→YardAt t H' A Km415.opened→A.cs=[]→Q .non H'
theorem ok_Yard (F:Fun K "__init__" "Yard.__init__" s_Yard_init f fd) (T:Txt K mg t):FnOk P w K mg base CX0 1 f fd ["self"] (sp_Yard t):=by
 refine F.ok sc_Yard_init (fun vs H Q E h=>?_) (fun cdv _ outer s H vs Q E hr h=>?_)
 ·obtain ⟨x,dx,rfl,_⟩:=h;rfl
 ·obtain ⟨x,dx,rfl,hx,kk⟩:=h
  have nd:=sc_Yard_init.nd
  refine ⟨_,(pss_cons (ps_fldK K (pv 0) (pe_lst pa_nil) rfl) (pss_cons (ps_fldK K (pv 0) (pe_lst pa_nil) rfl) (pss_cons (ps_fldK K (pv 0) (pe_lst pa_nil) rfl) (pss_cons (ps_fldK K (pv 0) (pe_op op_rep (pe_lst (pa_cons pe_non pa_nil)) (pe_gi rfl T.g_PLACES)) rfl) (pss_cons (ps_fldK K (pv 0) pe_int rfl) (pss_cons (ps_fldK K (pv 0) pe_int rfl) (pss_cons (ps_fldK K (pv 0) pe_int rfl) (pss_cons (ps_fldK K (pv 0) pe_int rfl) (pss_cons (ps_fldK K (pv 0) pe_int rfl) (pss_cons (ps_fldK K (pv 0) pe_int rfl) (pss_cons (ps_fldK K (pv 0) pe_int rfl) (pss_one (ps_fldK K (pv 0) pe_int rfl))))))))))))),?_⟩
  walk_at "rd"
  refine ⟨by decide,fun k1 hk1=>?_⟩
  have hx1:(upd H k1 (.lst [])) x=some (.ins t.cYard dx []):=by rw [upd_ne (ne_of_none hx hk1)];exact hx
  walk_at "rd"
  refine rd_set hx1 T.cl_Yard T.n_Yard_kinds (by show 0 < 1000;decide) rfl ?_
  have st1:=new_step (f:="kinds") hx hk1 (l:=[]) (fs':=[("kinds",.ref k1)])
  refine st1.on ?_
  clear st1 hx1
  intro H1 kp1 hx1 hl1 hk1'
  walk_at "rd"
  refine ⟨by decide,fun k2 hk2=>?_⟩
  have hx1':(upd H1 k2 (.lst [])) x=some (.ins t.cYard dx [("kinds",.ref k1)]):=by rw [upd_ne (ne_of_none hx1 hk2)];exact hx1
  walk_at "rd"
  refine rd_set hx1' T.cl_Yard T.n_Yard_models (by show 1 < 1000;decide) rfl ?_
  have st2:=new_step (f:="models") hx1 hk2 (l:=[]) (fs':=[("kinds",.ref k1),("models",.ref k2)])
  refine st2.on ?_
  clear st2 hx1'
  intro H2 kp2 hx2 hl2 hk2'
  walk_at "rd"
  refine ⟨by decide,fun k3 hk3=>?_⟩
  have hx2':(upd H2 k3 (.lst [])) x=some (.ins t.cYard dx [("kinds",.ref k1),("models",.ref k2)]):=by rw [upd_ne (ne_of_none hx2 hk3)];exact hx2
  walk_at "rd"
  refine rd_set hx2' T.cl_Yard T.n_Yard_cars (by show 2 < 1000;decide) rfl ?_
  have st3:=new_step (f:="cars") hx2 hk3 (l:=[]) (fs':=[("kinds",.ref k1),("models",.ref k2),("cars",.ref k3)])
  refine st3.on ?_
  clear st3 hx2'
  intro H3 kp3 hx3 hl3 hk3'
  walk_at "rd"
  refine ⟨by show 1≤sizeLine;decide,fun k0 hk0=>?_⟩
  walk_at "rd"
  refine ⟨k0,30,[.non],rfl,rfl,upd_same,by decide,by decide,by show 1 * 30≤sizeLine;decide,fun k4 hk4=>?_⟩
  have hx3':(upd H3 k0 (.lst [.non])) x=some (.ins t.cYard dx [("kinds",.ref k1),("models",.ref k2),("cars",.ref k3)]):=by rw [upd_ne (ne_of_none hx3 hk0)];exact hx3
  have kp3':Keep x H2 (upd H3 k0 (.lst [.non])):=kp3.trans (Keep.same (same_new hk0))
  have hl3':(upd H3 k0 (.lst [.non])) k3=some (.lst []):=by rw [upd_ne (ne_of_none hl3 hk0)];exact hl3
  generalize upd H3 k0 (.lst [.non])=H3' at hk4 hx3' kp3' hl3'
  clear kp3 hl3 hx3
  have hx4:(upd H3' k4 (.lst (List.replicate (30:Int).toNat [V.non]).flatten)) x=some (.ins t.cYard dx [("kinds",.ref k1),("models",.ref k2),("cars",.ref k3)]):=by rw [upd_ne (ne_of_none hx3' hk4)];exact hx3'
  walk_at "rd"
  refine rd_set hx4 T.cl_Yard T.n_Yard_stock (by show 3 < 1000;decide) rfl ?_
  have st4:=new_step (f:="stock") hx3' hk4 (l:=(List.replicate (30:Int).toNat [V.non]).flatten) (fs':=[("kinds",.ref k1),("models",.ref k2),("cars",.ref k3),("stock",.ref k4)])
  refine st4.on ?_
  clear st4 hx4
  intro H4 kp4 hx4 hl4 hk4'
  walk_at "rd"
  refine rd_set hx4 T.cl_Yard T.n_Yard_came_kg (by show 4 < 1000;decide) rfl ?_
  walk_at "rd"
  refine rd_set upd_same T.cl_Yard T.n_Yard_came_litres (by show 5 < 1000;decide) rfl ?_
  walk_at "rd"
  refine rd_set upd_same T.cl_Yard T.n_Yard_tank (by show 6 < 1000;decide) rfl ?_
  walk_at "rd"
  refine rd_set upd_same T.cl_Yard T.n_Yard_scrap (by show 7 < 1000;decide) rfl ?_
  walk_at "rd"
  refine rd_set upd_same T.cl_Yard T.n_Yard_sold_kg (by show 8 < 1000;decide) rfl ?_
  walk_at "rd"
  refine rd_set upd_same T.cl_Yard T.n_Yard_sold_litres (by show 9 < 1000;decide) rfl ?_
  walk_at "rd"
  refine rd_set upd_same T.cl_Yard T.n_Yard_minutes (by show 10 < 1000;decide) rfl ?_
  walk_at "rd"
  refine rd_set upd_same T.cl_Yard T.n_Yard_earned (by show 11 < 1000;decide) rfl ?_
  have kpE:∀{G:Hp} {o1 o2 o3 o4 o5 o6 o7 o8:HO},Keep x G (upd (upd (upd (upd (upd (upd (upd (upd G x o1) x o2) x o3) x o4) x o5) x o6) x o7) x o8):=fun {G o1 o2 o3 o4 o5 o6 o7 o8}=>((((((Keep.upd x G o1).trans (Keep.upd _ _ o2)).trans (Keep.upd _ _ o3)).trans (Keep.upd _ _ o4)).trans (Keep.upd _ _ o5)).trans (Keep.upd _ _ o6)).trans (Keep.upd _ _ o7) |>.trans (Keep.upd _ _ o8)
  have q1:=kp4 _ _ (kp3' _ _ (kp2 _ _ hl1 hk1') hk1') hk1'
  have q2:=kp4 _ _ (kp3' _ _ hl2 hk2') hk2'
  have q3:=kp4 _ _ hl3' hk3'
  have n12:k1≠k2:=ne_of_none hl1 hk2
  have n13:k1≠k3:=ne_of_none (kp2 _ _ hl1 hk1') hk3
  have n23:k2≠k3:=ne_of_none hl2 hk3
  have n14:k1≠k4:=ne_of_none (kp3' _ _ (kp2 _ _ hl1 hk1') hk1') hk4
  have n24:k2≠k4:=ne_of_none (kp3' _ _ hl2 hk2') hk4
  have n34:k3≠k4:=ne_of_none hl3' hk4
  refine kk _ { a:=x,kl:=k1,ml:=k2,cl:=k3,sl:=k4,ks:=[],ms:=[],cs:=[],sv:=List.replicate 30 .non } rfl (((kp1.trans kp2).trans kp3').trans kp4 |>.trans kpE) hk1 (kp1.free hk2 hk2') ((kp1.trans kp2).free hk3 hk3') (((kp1.trans kp2).trans kp3').free hk4 hk4') ?_ ?_ rfl
  ·simp [n12,n13,n14,n23,n24,n34]
  ·refine ⟨⟨dx,upd_same⟩,kpE _ _ q1 hk1',kpE _ _ q2 hk2',kpE _ _ q3 hk3',kpE _ _ hl4 hk4',.nil,.nil,.nil,?_,List.nodup_nil⟩
   show Paired _ (List.replicate 30 V.non) (List.replicate 30 none)
   exact paired_rep _
end
end Y58
namespace Y58
open PySem PySem.Spec PyProof.Rows L2
section
variable {P:Program} {w:World} {K:PySem.W.Frag} {mg:Str→Option Value} {base:Heap} {t:Adr} {f:Addr} {fd:FuncData}
theorem fld_on {H:Hp} {x:Addr} {o:HO} {R:Hp→Prop} (h:∀H',Keep x H H'→H' x=some o→R H'):R (upd H x o):=h _ (Keep.upd _ _ _) upd_same
def sp_copied_yard (t:Adr):Sp:=fun vs H Q _=>∃A y,vs=[.ref A.a]∧YardAt t H A y∧Good y∧∀H' A',Draft t H H' A' y→Q (.ref A'.a) H'
theorem ok_copied_yard (F:Fun K "copied_yard" "copied_yard" s_copied_yard f fd) (T:Txt K mg t) (M_Yard:Md P w K mg base "Yard" t.cYard 1 ["self"] (sp_Yard t)) (F_copied_car:Fd P w K mg base "copied_car" 3 ["car"] (sp_copied_car t)) :
  FnOk P w K mg base CX0 4 f fd ["yard"] (sp_copied_yard t):=by
 refine F.ok sc_copied_yard (fun vs H Q E h=>?_) (fun cdv _ outer s H vs Q E hr h=>?_)
 ·obtain ⟨A,y,rfl,_⟩:=h;rfl
 ·obtain ⟨A,y,rfl,hy,g,kk⟩:=h
  have nd:=sc_copied_yard.nd
  refine ⟨_,(pss_cons (ps_set (i:=1) nd rfl (by walk_at "lo") (pe_mk0 M_Yard (hr.mono (by decide)) rfl)) (pss_cons (ps_fldK K (pv 1) (pe_callTy (call_listK K) (by rfl) T.b_list PyProof.Rows.boot_list (pa_cons (pe_fldK K (pv 0) rfl) pa_nil)) rfl) (pss_cons (ps_fldK K (pv 1) (pe_callTy (call_listK K) (by rfl) T.b_list PyProof.Rows.boot_list (pa_cons (pe_fldK K (pv 0) rfl) pa_nil)) rfl) (pss_cons (ps_fldK K (pv 1) (pe_lc rfl nd (pi_listK K (pe_fldK K (pv 0) rfl)) (blkOk_by (own:=[("car",2)]) rfl) (fun _ _ _ _ _=>(pg_name (i:=2) nd rfl (by walk_at "lo"))) (fun _ _ _ _ _=>pts_nil) (fun _ _ _ _ _=>(pe_fn F_copied_car (hr.mono (by decide)) rfl (pa_cons (pv 2) pa_nil)))) rfl) (pss_cons (ps_fldK K (pv 1) (pe_callTy (call_listK K) (by rfl) T.b_list PyProof.Rows.boot_list (pa_cons (pe_fldK K (pv 0) rfl) pa_nil)) rfl) (pss_cons (ps_fldK K (pv 1) (pe_fldK K (pv 0) rfl) rfl) (pss_cons (ps_fldK K (pv 1) (pe_fldK K (pv 0) rfl) rfl) (pss_cons (ps_fldK K (pv 1) (pe_fldK K (pv 0) rfl) rfl) (pss_cons (ps_fldK K (pv 1) (pe_fldK K (pv 0) rfl) rfl) (pss_cons (ps_fldK K (pv 1) (pe_fldK K (pv 0) rfl) rfl) (pss_cons (ps_fldK K (pv 1) (pe_fldK K (pv 0) rfl) rfl) (pss_cons (ps_fldK K (pv 1) (pe_fldK K (pv 0) rfl) rfl) (pss_cons (ps_fldK K (pv 1) (pe_fldK K (pv 0) rfl) rfl) (pss_one (ps_ret (pv 1)))))))))))))))),?_⟩
  walk_at "rd"
  intro x dx hx hdx hne
  refine ⟨x,dx,rfl,upd_same,fun H1 A1 ea kp fkl fml fcl fsl ap hy1 ecs=>⟨rfl,?_⟩⟩
  have s1:=made_same hx hdx kp
  have hy':=hy.same s1
  obtain ⟨dy,hme⟩:=hy'.me
  have hkl:=hy'.kl
  have hml:=hy'.ml
  have hcl:=hy'.cl
  have hsl:=hy'.sl
  obtain ⟨d1,hm1⟩:=hy1.me
  rw [ea] at hm1
  walk_at "rd"
  intro l1 hl1
  have nx:∀{a:Addr} {o:HO},H a=some o→a≠x:=fun e=>ne_of_none e hx
  obtain ⟨dy0,hme0⟩:=hy.me
  have hx1:(upd H1 l1 (.lst (A.ks.map V.ref))) x=some (.ins t.cYard d1 (yardF A1 Km415.opened)):=by rw [upd_ne (ne_of_none hm1 hl1)];exact hm1
  walk_at "rd"
  refine rd_set hx1 T.cl_Yard T.n_Yard_kinds (by show 12 < 1000;decide) rfl ?_
  have st1:=new_step (f:="kinds") hm1 hl1 (l:=A.ks.map V.ref) (fs':=yardF { A1 with kl:=l1 } Km415.opened)
  refine st1.on ?_
  clear st1 hx1
  intro H2 kp2 hx2 hl2 hk2
  have hme2:=kp2 _ _ hme (nx hme0)
  have hml2:=kp2 _ _ hml (nx hy.ml)
  have hcl2:=kp2 _ _ hcl (nx hy.cl)
  have hsl2:=kp2 _ _ hsl (nx hy.sl)
  clear hme hml hcl hsl hkl
  walk_at "rd"
  intro l2 hl2n
  have hx2':(upd H2 l2 (.lst (A.ms.map V.ref))) x=some (.ins t.cYard d1 (yardF { A1 with kl:=l1 } Km415.opened)):=by rw [upd_ne (ne_of_none hx2 hl2n)];exact hx2
  walk_at "rd"
  refine rd_set hx2' T.cl_Yard T.n_Yard_models (by show 12 < 1000;decide) rfl ?_
  have st2:=new_step (f:="models") hx2 hl2n (l:=A.ms.map V.ref) (fs':=yardF { A1 with kl:=l1,ml:=l2 } Km415.opened)
  refine st2.on ?_
  clear st2 hx2'
  intro H3 kp3 hx3 hl3 hk3
  have hme3:=kp3 _ _ hme2 (nx hme0)
  have hcl3:=kp3 _ _ hcl2 (nx hy.cl)
  have hsl3:=kp3 _ _ hsl2 (nx hy.sl)
  clear hme2 hml2 hcl2 hsl2
  walk_at "rd"
  have kp1_3:Keep x H1 H3:=kp2.trans kp3
  have toS:∀{G:Hp},Keep x H1 G→Same H G:=fun kG b o e=>kG b o (s1 b o e) (nx e)
  have sH3:=toS kp1_3
  have hl2':=kp3 _ _ hl2 hk2
  have hc8:=g.cl
  have hcn:=hy.cn
  refine ⟨⟨_,SqL.of hcl3⟩,fun D hD=>?_⟩
  refine lc_list (K:=K) (a:=A.cl) (xs:=A.cs.map V.ref) (fun i H'=>Same H3 H'∧∃cs',H' D=some (.lst (cs'.map V.ref))∧Paired (CarAt t H') cs' (y.cars.take i)∧cs'.Nodup∧∀b∈cs',H3 b=none∧b≠D)
   ⟨same_new hD,[],upd_same,.nil,List.nodup_nil,fun b hb=>by cases hb⟩ (fun i H' _ ⟨s2,_⟩=>SqL.of (s2 _ _ hcl3)) ?_ ?_
  ·rintro i z H' hz ⟨s2,cs',hD',hp',hn',hf'⟩
   obtain ⟨b,hb,rfl⟩:=map_get hz
   obtain ⟨c,hc,⟨dc,hcb⟩⟩:=paired_get' hy.cs hb
   refine ⟨rfl,?_⟩
   walk_at "rd"
   refine ⟨b,dc,c,rfl,s2 _ _ (sH3 _ _ hcb),fun H'' x' s3 hx' hcx=>?_⟩
   have hlen:cs'.length=(y.cars.take i).length:=Paired.length hp'
   have hxD:x'≠D:=fun e=>by rw [e,hD'] at hx';cases hx'
   refine ⟨_,s3 _ _ hD',small (by rw [List.length_map,hlen,List.length_take];omega),same_upd (s2.trans s3) hD,cs'++[x'],?_,?_,?_,?_⟩
   ·rw [upd_same,List.map_append];rfl
   ·rw [take_snoc hc]
    refine paired_snoc ?_ ?_
    ·obtain ⟨d',hd'⟩:=hcx
     exact ⟨d',by rw [upd_ne hxD];exact hd'⟩
    ·refine cars_keep (b:=D) (H:=H'') (Keep.upd _ _ _) (Paired.mapP hp' fun _ _=>CarAt.same s3) fun a ha=>(hf' a ha).2
   ·refine List.nodup_append.mpr ⟨hn',by simp,fun a ha b hb e=>?_⟩
    rw [List.mem_singleton] at hb
    subst e hb
    obtain ⟨j,hj,e⟩:=List.getElem_of_mem ha
    obtain ⟨c2,_,⟨d2,hd2⟩⟩:=paired_get' hp' (show cs'[j]?=some a by rw [List.getElem?_eq_getElem hj,e])
    rw [hd2] at hx';cases hx'
   ·intro a ha
    rcases List.mem_append.mp ha with q | q
    ·exact hf' a q
    ·rw [List.mem_singleton] at q
     rw [q]
     exact ⟨s2.free hx',hxD⟩
  rintro H4 ⟨s4,cs',hD4,hp4,hn4,hf4⟩
  rw [hcn,List.take_length] at hp4
  have hx4:=s4 _ _ hx3
  have hme4:=s4 _ _ hme3
  have hsl4:=s4 _ _ hsl3
  have hDx:D≠x:=fun e=>by rw [e,hx3] at hD;cases hD
  clear hme3 hcl3 hsl3
  walk_at "rd"
  refine rd_set hx4 T.cl_Yard T.n_Yard_cars (by show 12 < 1000;decide) (show putF "cars" (.ref D) (yardF { A1 with kl:=l1,ml:=l2 } Km415.opened)=yardF { A1 with kl:=l1,ml:=l2,cl:=D } Km415.opened from rfl) ?_
  have kp5:Keep x H4 (upd H4 x (.ins t.cYard d1 (yardF { A1 with kl:=l1,ml:=l2,cl:=D } Km415.opened))):=Keep.upd _ _ _
  have hx5:(upd H4 x (.ins t.cYard d1 (yardF { A1 with kl:=l1,ml:=l2,cl:=D } Km415.opened))) x=some (.ins t.cYard d1 (yardF { A1 with kl:=l1,ml:=l2,cl:=D } Km415.opened)):=upd_same
  generalize upd H4 x (.ins t.cYard d1 (yardF { A1 with kl:=l1,ml:=l2,cl:=D } Km415.opened))=H5 at kp5 hx5
  have hme5:=kp5 _ _ hme4 (nx hme0)
  have hsl5:=kp5 _ _ hsl4 (nx hy.sl)
  clear hme4 hsl4
  walk_at "rd"
  intro l5 hl5n
  have hx5':(upd H5 l5 (.lst A.sv)) x=some (.ins t.cYard d1 (yardF { A1 with kl:=l1,ml:=l2,cl:=D } Km415.opened)):=by rw [upd_ne (ne_of_none hx5 hl5n)];exact hx5
  walk_at "rd"
  refine rd_set hx5' T.cl_Yard T.n_Yard_stock (by show 12 < 1000;decide) rfl ?_
  have st5:=new_step (f:="stock") hx5 hl5n (l:=A.sv) (fs':=yardF { A1 with kl:=l1,ml:=l2,cl:=D,sl:=l5 } Km415.opened)
  refine st5.on ?_
  clear st5 hx5'
  intro H6 kp6 hx6 hl6 hk6
  have hme6:=kp6 _ _ hme5 (nx hme0)
  clear hme5
  walk_at "rd"
  refine rd_set hx6 T.cl_Yard T.n_Yard_came_kg (by show 12 < 1000;decide) (show putF "came_kg" (iN y.came) (yardF { A1 with kl:=l1,ml:=l2,cl:=D,sl:=l5 } Km415.opened)=yardF { A1 with kl:=l1,ml:=l2,cl:=D,sl:=l5 } { Km415.opened with came:=y.came } from rfl) ?_
  refine fld_on ?_
  intro H7 kp7 hx7
  have hme7:=kp7 _ _ hme6 (nx hme0)
  clear hme6
  walk_at "rd"
  refine rd_set hx7 T.cl_Yard T.n_Yard_came_litres (by show 12 < 1000;decide) (show putF "came_litres" (iN y.pumped) (yardF { A1 with kl:=l1,ml:=l2,cl:=D,sl:=l5 } { Km415.opened with came:=y.came })=yardF { A1 with kl:=l1,ml:=l2,cl:=D,sl:=l5 } { Km415.opened with came:=y.came,pumped:=y.pumped } from rfl) ?_
  refine fld_on ?_
  intro H8 kp8 hx8
  have hme8:=kp8 _ _ hme7 (nx hme0)
  clear hme7
  walk_at "rd"
  refine rd_set hx8 T.cl_Yard T.n_Yard_tank (by show 12 < 1000;decide) (show putF "tank" (iN y.tank) (yardF { A1 with kl:=l1,ml:=l2,cl:=D,sl:=l5 } { Km415.opened with came:=y.came,pumped:=y.pumped })=yardF { A1 with kl:=l1,ml:=l2,cl:=D,sl:=l5 } { Km415.opened with came:=y.came,pumped:=y.pumped,tank:=y.tank } from rfl) ?_
  refine fld_on ?_
  intro H9 kp9 hx9
  have hme9:=kp9 _ _ hme8 (nx hme0)
  clear hme8
  walk_at "rd"
  refine rd_set hx9 T.cl_Yard T.n_Yard_scrap (by show 12 < 1000;decide) (show putF "scrap" (iN y.scrap) (yardF { A1 with kl:=l1,ml:=l2,cl:=D,sl:=l5 } { Km415.opened with came:=y.came,pumped:=y.pumped,tank:=y.tank })=yardF { A1 with kl:=l1,ml:=l2,cl:=D,sl:=l5 } { Km415.opened with came:=y.came,pumped:=y.pumped,tank:=y.tank,scrap:=y.scrap } from rfl) ?_
  refine fld_on ?_
  intro H10 kp10 hx10
  have hme10:=kp10 _ _ hme9 (nx hme0)
  clear hme9
  walk_at "rd"
  refine rd_set hx10 T.cl_Yard T.n_Yard_sold_kg (by show 12 < 1000;decide) (show putF "sold_kg" (iN y.sold) (yardF { A1 with kl:=l1,ml:=l2,cl:=D,sl:=l5 } { Km415.opened with came:=y.came,pumped:=y.pumped,tank:=y.tank,scrap:=y.scrap })=yardF { A1 with kl:=l1,ml:=l2,cl:=D,sl:=l5 } { Km415.opened with came:=y.came,pumped:=y.pumped,tank:=y.tank,scrap:=y.scrap,sold:=y.sold } from rfl) ?_
  refine fld_on ?_
  intro H11 kp11 hx11
  have hme11:=kp11 _ _ hme10 (nx hme0)
  clear hme10
  walk_at "rd"
  refine rd_set hx11 T.cl_Yard T.n_Yard_sold_litres (by show 12 < 1000;decide) (show putF "sold_litres" (iN y.drunk) (yardF { A1 with kl:=l1,ml:=l2,cl:=D,sl:=l5 } { Km415.opened with came:=y.came,pumped:=y.pumped,tank:=y.tank,scrap:=y.scrap,sold:=y.sold })=yardF { A1 with kl:=l1,ml:=l2,cl:=D,sl:=l5 } { Km415.opened with came:=y.came,pumped:=y.pumped,tank:=y.tank,scrap:=y.scrap,sold:=y.sold,drunk:=y.drunk } from rfl) ?_
  refine fld_on ?_
  intro H12 kp12 hx12
  have hme12:=kp12 _ _ hme11 (nx hme0)
  clear hme11
  walk_at "rd"
  refine rd_set hx12 T.cl_Yard T.n_Yard_minutes (by show 12 < 1000;decide) (show putF "minutes" (iN y.minutes) (yardF { A1 with kl:=l1,ml:=l2,cl:=D,sl:=l5 } { Km415.opened with came:=y.came,pumped:=y.pumped,tank:=y.tank,scrap:=y.scrap,sold:=y.sold,drunk:=y.drunk })=yardF { A1 with kl:=l1,ml:=l2,cl:=D,sl:=l5 } { Km415.opened with came:=y.came,pumped:=y.pumped,tank:=y.tank,scrap:=y.scrap,sold:=y.sold,drunk:=y.drunk,minutes:=y.minutes } from rfl) ?_
  refine fld_on ?_
  intro H13 kp13 hx13
  have hme13:=kp13 _ _ hme12 (nx hme0)
  clear hme12
  walk_at "rd"
  refine rd_set hx13 T.cl_Yard T.n_Yard_earned (by show 12 < 1000;decide) (show putF "earned" (iN y.earned) (yardF { A1 with kl:=l1,ml:=l2,cl:=D,sl:=l5 } { Km415.opened with came:=y.came,pumped:=y.pumped,tank:=y.tank,scrap:=y.scrap,sold:=y.sold,drunk:=y.drunk,minutes:=y.minutes })=yardF { A1 with kl:=l1,ml:=l2,cl:=D,sl:=l5 } { Km415.opened with came:=y.came,pumped:=y.pumped,tank:=y.tank,scrap:=y.scrap,sold:=y.sold,drunk:=y.drunk,minutes:=y.minutes,earned:=y.earned } from rfl) ?_
  refine fld_on ?_
  intro H14 kp14 hx14
  have hme14:=kp14 _ _ hme13 (nx hme0)
  clear hme13
  walk_at "rd"
  have kpE:Keep x H6 H14:=((((((kp7.trans kp8).trans kp9).trans kp10).trans kp11).trans kp12).trans kp13).trans kp14
  have kp5E:Keep x H5 H14:=kp6.trans kpE
  have kp4E:Keep x H4 H14:=kp5.trans kp5E
  have kp3E:Keep x H3 H14:=(Keep.same s4).trans kp4E
  have sE:=toS (kp1_3.trans kp3E)
  have hyE:=hy.same sE
  have n12:l1≠l2:=ne_of_none hl2 hl2n
  have n1D:l1≠D:=ne_of_none hl2' hD
  have n2D:l2≠D:=ne_of_none hl3 hD
  have h5of:∀{a:Addr} {o:HO},H4 a=some o→a≠x→a≠l5:=fun e n=>ne_of_none (kp5 _ _ e n) hl5n
  have n15:l1≠l5:=h5of (s4 _ _ hl2') hk2
  have n25:l2≠l5:=h5of (s4 _ _ hl3) hk3
  have nD5:D≠l5:=h5of hD4 hDx
  have fr3:∀{a:Addr},H3 a=none→H a=none:=fun e=>by
   cases q:H _ with
   | none=>rfl
   | some o=>rw [sH3 _ _ q] at e;cases e
  have fr2:∀{a:Addr},H2 a=none→H a=none:=fun e=>by
   cases q:H _ with
   | none=>rfl
   | some o=>rw [toS kp2 _ _ q] at e;cases e
  have fr5:∀{a:Addr},H5 a=none→H a=none:=fun e=>by
   cases q:H _ with
   | none=>rfl
   | some o=>rw [toS ((kp1_3.trans (Keep.same s4)).trans kp5) _ _ q] at e;cases e
  have hncs:∀b∈cs',b≠x:=fun b hb e=>by
   have:=(hf4 b hb).1
   rw [e,hx3] at this;cases this
  exact kk H14 { a:=x,kl:=l1,ml:=l2,cl:=D,sl:=l5,ks:=A.ks,ms:=A.ms,cs:=cs',sv:=A.sv }
   ⟨⟨⟨d1,hx14⟩,kp3E _ _ hl2' hk2,kp3E _ _ hl3 hk3,kp4E _ _ hD4 hDx,kpE _ _ hl6 hk6,hyE.ks,hyE.ms,cars_keep kp4E hp4 hncs,hyE.st,hn4⟩,sE,hx,s1.free hl1,fr2 hl2n,fr3 hD,fr5 hl5n,fun b hb=>fr3 (hf4 b hb).1,by simp [n12,n1D,n2D,n15,n25,nD5]⟩
end
end Y58
namespace Y58
open PySem PySem.Spec PyProof.Rows L2
abbrev s_bits_of:Stmt:=top 2
theorem sc_bits_of:FnScope ["numbers","bits","number"] ["numbers"] (defScope s_bits_of):=by walk_at "sc"
abbrev s_filled:Stmt:=top 60
theorem sc_filled:FnScope ["numbers","length"] ["numbers","length"] (defScope s_filled):=by walk_at "sc"
abbrev s_ask_fits:Stmt:=top 61
theorem sc_ask_fits:FnScope ["yard","t","m","n"] ["yard","t","m","n"] (defScope s_ask_fits):=by walk_at "sc"
abbrev s_ask_must:Stmt:=top 62
theorem sc_ask_must:FnScope ["yard","k","t","car","must"] ["yard","k","t"] (defScope s_ask_must):=by walk_at "sc"
abbrev s_ask_may:Stmt:=top 63
theorem sc_ask_may:FnScope ["yard","k","t"] ["yard","k","t"] (defScope s_ask_may):=by walk_at "sc"
abbrev s_ask_next:Stmt:=top 64
theorem sc_ask_next:FnScope ["yard","k","car","free","t"] ["yard","k"] (defScope s_ask_next):=by walk_at "sc"
abbrev s_ask_look:Stmt:=top 65
theorem sc_ask_look:FnScope ["yard","k","car"] ["yard","k"] (defScope s_ask_look):=by walk_at "sc"
abbrev s_ask_harm:Stmt:=top 66
theorem sc_ask_harm:FnScope ["yard","k","car","harmful"] ["yard","k"] (defScope s_ask_harm):=by walk_at "sc"
abbrev s_ask_find:Stmt:=top 67
theorem sc_ask_find:FnScope ["yard","t","m","place"] ["yard","t","m"] (defScope s_ask_find):=by walk_at "sc"
abbrev s_ask_from:Stmt:=top 68
theorem sc_ask_from:FnScope ["yard","t","m","cars"] ["yard","t","m"] (defScope s_ask_from):=by walk_at "sc"
abbrev s_ask_lacking:Stmt:=top 70
theorem sc_ask_lacking:FnScope ["yard","m","wanted","lacks"] ["yard","m","wanted"] (defScope s_ask_lacking):=by walk_at "sc"
abbrev s_ask_part:Stmt:=top 71
theorem sc_ask_part:FnScope ["yard","i","t"] ["yard","i"] (defScope s_ask_part):=by walk_at "sc"
section
variable {P:Program} {w:World} {K:PySem.W.Frag} {mg:Str→Option Value} {base:Heap} {t:Adr} {f:Addr} {fd:FuncData}
def told (a:Km415.Ans):List V:=(Km415Neutral.told a).map V.int
theorem told_mk (v:Int) (l:List Nat):told ⟨v,l⟩=.int v::l.map iN:=by
 unfold told Km415Neutral.told Km415Neutral.nums
 rw [List.map_cons,List.map_map];rfl
def AnsL (H:Hp) (Q:VK) (a:Km415.Ans):Prop:=∀H' p,Same H H'→H p=none→H' p=some (.lst (told a))→Q (.ref p) H'
theorem AnsL.fin {H H1:Hp} {Q:VK} {a:Km415.Ans} {p:Addr} {vs:List V} (k:AnsL H Q a) (s:Same H H1) (hp:H1 p=none) (e:told a=vs):Q (.ref p) (upd H1 p (.lst vs)) :=
 k _ p (same_upd s (s.free hp)) (s.free hp) (by rw [upd_same,e])
abbrev askA (y:Km415.Yard) (x:Km415.Call):Km415.Ans:=(Km415.act ⟨y,[],[]⟩ x).2
def sp_ask1 (t:Adr) (c:Nat→Km415.Call):Sp:=fun vs H Q _=>∃A y k,vs=[.ref A.a,iN k]∧YardAt t H A y∧Good y∧AnsL H Q (askA y (c k))
def sp_ask2 (t:Adr) (c:Nat→Nat→Km415.Call):Sp:=fun vs H Q _=>∃A y j k,vs=[.ref A.a,iN j,iN k]∧YardAt t H A y∧Good y∧AnsL H Q (askA y (c j k))
def sp_ask3 (t:Adr) (c:Nat→Nat→Nat→Km415.Call):Sp:=fun vs H Q _=>∃A y i j k,vs=[.ref A.a,iN i,iN j,iN k]∧YardAt t H A y∧Good y∧AnsL H Q (askA y (c i j k))
def sp_bits_of:Sp:=fun vs H Q _=>∃a l,vs=[.ref a]∧H a=some (.lst (l.map iN))∧(∀n∈l,n≤1000)∧Q (iN (Km415.bitsOf l)) H
theorem ok_bits_of (F:Fun K "bits_of" "bits_of" s_bits_of f fd) (T:Txt K mg t):FnOk P w K mg base CX0 1 f fd ["numbers"] sp_bits_of:=by
 refine F.ok sc_bits_of (fun vs H Q E h=>?_) (fun cdv _ outer s H vs Q E hr h=>?_)
 ·obtain ⟨a,l,rfl,_⟩:=h;rfl
 ·obtain ⟨a,l,rfl,ha,hl,k⟩:=h
  have nd:=sc_bits_of.nd
  refine ⟨_,(pss_cons (ps_set (i:=1) nd rfl (by walk_at "lo") pe_int) (pss_cons (ps_for PassesOwn.never rfl (pi_listK K (pv 0)) (pg_name (i:=2) nd rfl (by walk_at "lo")) (pss_one (ps_set (i:=1) nd rfl (by walk_at "lo") (pe_op op_or (pv 1) (pe_op op_shl pe_int (pv 2)))))) (pss_one (ps_ret (pv 1))))),?_⟩
  refine ⟨_,rfl,a,rfl,⟨_,SqL.of ha⟩,?_⟩
  refine for_list (K:=K) (a:=a) (xs:=l.map iN) (fun i σ H'=>H'=H∧∃v2,σ=[some (.ref a),some (iN (Km415.bitsOf (l.take i))),v2]) ⟨rfl,none,rfl⟩ (fun i σ H' _ q=>by rw [q.1];exact SqL.of ha) ?_ ?_
  ·rintro i x σ H' hx ⟨rfl,v2,rfl⟩
   obtain ⟨n,hn,rfl⟩:=map_get hx
   have hn1:=hl n (List.mem_of_getElem? hn)
   walk_at "rd"
   refine ⟨cpow_nat (a:=1) (by decide) (by omega),?_⟩
   walk_at "rd"
   refine ⟨some (iN n),?_⟩
   show [some (V.ref a),some (V.int (Builtin.bitOr ((Km415.bitsOf (l.take i):Nat):Int) (1 * 2^((n:Int)).toNat))),some (iN n)]=_
   rw [shl_nat,or_nat,take_snoc hn]
   unfold Km415.bitsOf
   rw [List.foldl_append];rfl
  ·rintro σ H' ⟨rfl,v2,rfl⟩
   rw [List.length_map,List.take_length]
   exact ⟨_,rfl,k⟩
def sp_filled:Sp:=fun vs H Q _=>∃a l n,vs=[.ref a,iN n]∧H a=some (.lst (l.map iN))∧l.length≤n∧n≤100∧∀H' p,Same H H'→H p=none→H' p=some (.lst ((Km415.fill n l).map iN))→Q (.ref p) H'
theorem fill_eq {n:Nat} {l:List Nat} (h:l.length≤n):Km415.fill n l=l++List.replicate (n - l.length) 0:=by
 unfold Km415.fill
 rw [List.take_of_length_le h]
theorem rep_flat {α:Type} (k:Nat) (v:α):(List.replicate k [v]).flatten=List.replicate k v:=by
 induction k with
 | zero=>rfl
 | succ k ih=>rw [List.replicate_succ,List.flatten_cons,ih,List.replicate_succ];rfl
theorem ok_filled (F:Fun K "filled" "filled" s_filled f fd) (T:Txt K mg t):FnOk P w K mg base CX0 1 f fd ["numbers","length"] sp_filled:=by
 refine F.ok sc_filled (fun vs H Q E h=>?_) (fun cdv _ outer s H vs Q E hr h=>?_)
 ·obtain ⟨a,l,n,rfl,_⟩:=h;rfl
 ·obtain ⟨a,l,n,rfl,ha,hl,hn,k⟩:=h
  have nd:=sc_filled.nd
  refine ⟨_,(pss_one (ps_ret (pe_op op_cat (pv 0) (pe_op op_rep (pe_lst (pa_cons pe_int pa_nil)) (pe_op op_sub (pv 1) (pe_callB (call_lenK K) (by rfl) T.b_len PySem.boot_len (pa_cons (pv 0) pa_nil))))))),?_⟩
  walk_at "rd"
  refine ⟨by show 1≤sizeLine;decide,fun k0 hk0=>?_⟩
  have ha0:(upd H k0 (.lst [.int 0])) a=some (.lst (l.map iN)):=by rw [upd_ne (ne_of_none ha hk0)];exact ha
  walk_at "rd"
  rw [List.length_map]
  have e:(n:Int) - (l.length:Int)=((n - l.length:Nat):Int):=by omega
  refine ⟨k0,((n - l.length:Nat):Int),[.int 0],rfl,by rw [←e],upd_same,by omega,by omega,?_,fun k1 hk1=>?_⟩
  ·rw [Int.toNat_natCast]
   have:=sizeLine_eq
   show 1 * _≤_
   omega
  ·rw [Int.toNat_natCast,rep_flat]
   have ha1:(upd (upd H k0 (.lst [.int 0])) k1 (.lst (List.replicate (n - l.length) (V.int 0)))) a=some (.lst (l.map iN)):=by rw [upd_ne (ne_of_none ha0 hk1)];exact ha0
   refine ⟨a,k1,_,_,rfl,rfl,ha1,upd_same,?_,fun p hp=>?_⟩
   ·rw [List.length_map,List.length_replicate]
    have:=sizeLine_eq
    omega
   ·have s2:Same H (upd (upd H k0 (.lst [.int 0])) k1 (.lst (List.replicate (n - l.length) (V.int 0)))):=(same_new hk0).trans (same_new hk1)
    refine k _ p (same_upd s2 (s2.free hp)) (s2.free hp) ?_
    rw [upd_same,fill_eq hl,List.map_append,List.map_replicate];rfl
theorem ok_ask_fits (F:Fun K "ask_fits" "ask_fits" s_ask_fits f fd) (T:Txt K mg t) (F_kind_is_there:Fd P w K mg base "kind_is_there" 1 ["yard","t"] (sp_kind_is_there t)) (F_model_is_there:Fd P w K mg base "model_is_there" 1 ["yard","m"] (sp_model_is_there t))
  (F_part_fits:Fd P w K mg base "part_fits" 1 ["yard","t","m","n"] (sp_part_fits t)):FnOk P w K mg base CX0 2 f fd ["yard","t","m","n"] (sp_ask3 t .fits):=by
 refine F.ok sc_ask_fits (fun vs H Q E h=>?_) (fun cdv _ outer s H vs Q E hr h=>?_)
 ·obtain ⟨A,y,u,m,n,rfl,_⟩:=h;rfl
 ·obtain ⟨A,y,u,m,n,rfl,hy,g,kk⟩:=h
  have nd:=sc_ask_fits.nd
  have k1:AnsL H Q (if y.types.length≤u∨y.models.length≤m∨y.models.length≤n then Km415.only (-2) else Km415.only ((Km415.bit (y.fits u m n):Nat):Int)):=kk
  refine ⟨_,(pss_cons (ps_if (PW.pt (pw_or (pt_not (pt_val (pe_fn F_kind_is_there (hr.mono (by decide)) rfl (pa_cons (pv 0) (pa_cons (pv 1) pa_nil))))) (pw_or (pt_not (pt_val (pe_fn F_model_is_there (hr.mono (by decide)) rfl (pa_cons (pv 0) (pa_cons (pv 2) pa_nil))))) (pw_or1 (pt_not (pt_val (pe_fn F_model_is_there (hr.mono (by decide)) rfl (pa_cons (pv 0) (pa_cons (pv 3) pa_nil))))))))) (pss_one (ps_ret (pe_lst (pa_cons (pe_gi rfl T.g_NOT_THERE) pa_nil)))) pss_nil) (pss_one (ps_ret (pe_lst (pa_cons (pe_ifExp (pt_val (pe_fn F_part_fits (hr.mono (by decide)) rfl (pa_cons (pv 0) (pa_cons (pv 1) (pa_cons (pv 2) (pa_cons (pv 3) pa_nil)))))) pe_int pe_int) pa_nil))))),?_⟩
  walk_at "rd"
  refine ⟨A,y,u,rfl,hy,_,rfl,?_⟩
  by_cases h1:u < y.types.length
  ·rw [decide_eq_true h1]
   refine iteF ?_
   walk_at "rd"
   refine ⟨A,y,m,rfl,hy,_,rfl,?_⟩
   by_cases h2:m < y.models.length
   ·rw [decide_eq_true h2]
    refine iteF ?_
    walk_at "rd"
    refine ⟨A,y,n,rfl,hy,_,rfl,?_⟩
    by_cases h3:n < y.models.length
    ·rw [decide_eq_true h3]
     rw [if_neg (by omega)] at k1
     refine iteF ?_
     walk_at "rd"
     refine ⟨A,y,u,m,n,rfl,hy,g,Nat.lt_of_lt_of_le h1 g.tl,h2,h3,_,rfl,?_⟩
     cases hf:y.fits u m n with
     | true =>
      rw [hf] at k1
      refine iteT ⟨by show 1≤sizeLine;decide,fun p hp=>?_⟩
      exact k1.fin (Same.refl H) hp rfl
     | false =>
      rw [hf] at k1
      refine iteF ⟨by show 1≤sizeLine;decide,fun p hp=>?_⟩
      exact k1.fin (Same.refl H) hp rfl
    ·rw [decide_eq_false h3]
     rw [if_pos (.inr (.inr (by omega)))] at k1
     exact iteT ⟨by show 1≤sizeLine;decide,fun p hp=>k1.fin (Same.refl H) hp rfl⟩
   ·rw [decide_eq_false h2]
    rw [if_pos (.inr (.inl (by omega)))] at k1
    exact iteT (iteT ⟨by show 1≤sizeLine;decide,fun p hp=>k1.fin (Same.refl H) hp rfl⟩)
  ·rw [decide_eq_false h1]
   rw [if_pos (.inl (by omega))] at k1
   exact iteT (iteT ⟨by show 1≤sizeLine;decide,fun p hp=>k1.fin (Same.refl H) hp rfl⟩)
theorem ok_ask_look (F:Fun K "ask_look" "ask_look" s_ask_look f fd) (T:Txt K mg t) (F_car_is_there:Fd P w K mg base "car_is_there" 1 ["yard","k"] (sp_car_is_there t)):FnOk P w K mg base CX0 2 f fd ["yard","k"] (sp_ask1 t .look):=by
 refine F.ok sc_ask_look (fun vs H Q E h=>?_) (fun cdv _ outer s H vs Q E hr h=>?_)
 ·obtain ⟨A,y,k,rfl,_⟩:=h;rfl
 ·obtain ⟨A,y,k,rfl,hy,g,kk⟩:=h
  have nd:=sc_ask_look.nd
  have k1:AnsL H Q (match y.live k with
   | none=>Km415.only (-2)
   | some c=>⟨((c.model:Nat):Int),[c.has,c.litres,c.kg]⟩):=kk
  refine ⟨_,(pss_cons (ps_if (pt_not (pt_val (pe_fn F_car_is_there (hr.mono (by decide)) rfl (pa_cons (pv 0) (pa_cons (pv 1) pa_nil))))) (pss_one (ps_ret (pe_lst (pa_cons (pe_gi rfl T.g_NOT_THERE) pa_nil)))) pss_nil) (pss_cons (ps_set (i:=2) nd rfl (by walk_at "lo") (pe_ix (ix_listK K) (pe_fldK K (pv 0) rfl) (pv 1) (fun _ _=>rfl))) (pss_one (ps_ret (pe_lst (pa_cons (pe_fldK K (pv 2) rfl) (pa_cons (pe_fldK K (pv 2) rfl) (pa_cons (pe_fldK K (pv 2) rfl) (pa_cons (pe_fldK K (pv 2) rfl) pa_nil))))))))),?_⟩
  walk_at "rd"
  refine ⟨A,y,k,rfl,hy,?_⟩
  cases hlv:y.live k with
  | none =>
   rw [hlv] at k1
   exact ⟨_,rfl,iteT ⟨by show 1≤sizeLine;decide,fun p hp=>k1.fin (Same.refl H) hp rfl⟩⟩
  | some c =>
   rw [hlv] at k1
   obtain ⟨hc,hgone⟩:=live_get hlv
   obtain ⟨b,dc,hb,hbr,hcb⟩:=hy.car hc
   obtain ⟨dy,hme⟩:=hy.me
   have hcl:=hy.cl
   refine ⟨_,rfl,iteF ?_⟩
   walk_at "rd"
   exact ⟨by show 4≤sizeLine;decide,fun p hp=>k1.fin (Same.refl H) hp rfl⟩
theorem ok_ask_may (F:Fun K "ask_may" "ask_may" s_ask_may f fd) (T:Txt K mg t) (F_car_is_there:Fd P w K mg base "car_is_there" 1 ["yard","k"] (sp_car_is_there t)) (F_may_come_off:Fd P w K mg base "may_come_off" 2 ["yard","car","t"] (sp_may_come_off t)) :
  FnOk P w K mg base CX0 3 f fd ["yard","k","t"] (sp_ask2 t .may):=by
 refine F.ok sc_ask_may (fun vs H Q E h=>?_) (fun cdv _ outer s H vs Q E hr h=>?_)
 ·obtain ⟨A,y,k,n,rfl,_⟩:=h;rfl
 ·obtain ⟨A,y,k,n,rfl,hy,g,kk⟩:=h
  have nd:=sc_ask_may.nd
  have k1:AnsL H Q (match y.live k with
   | none=>Km415.only (-2)
   | some c=>Km415.only ((Km415.bit (y.can c n):Nat):Int)):=kk
  refine ⟨_,(pss_cons (ps_if (pt_not (pt_val (pe_fn F_car_is_there (hr.mono (by decide)) rfl (pa_cons (pv 0) (pa_cons (pv 1) pa_nil))))) (pss_one (ps_ret (pe_lst (pa_cons (pe_gi rfl T.g_NOT_THERE) pa_nil)))) pss_nil) (pss_one (ps_ret (pe_lst (pa_cons (pe_ifExp (pt_val (pe_fn F_may_come_off (hr.mono (by decide)) rfl (pa_cons (pv 0) (pa_cons (pe_ix (ix_listK K) (pe_fldK K (pv 0) rfl) (pv 1) (fun _ _=>rfl)) (pa_cons (pv 2) pa_nil))))) pe_int pe_int) pa_nil))))),?_⟩
  walk_at "rd"
  refine ⟨A,y,k,rfl,hy,?_⟩
  cases hlv:y.live k with
  | none =>
   rw [hlv] at k1
   exact ⟨_,rfl,iteT ⟨by show 1≤sizeLine;decide,fun p hp=>k1.fin (Same.refl H) hp rfl⟩⟩
  | some c =>
   rw [hlv] at k1
   obtain ⟨hc,hgone⟩:=live_get hlv
   obtain ⟨b,dc,hb,hbr,hcb⟩:=hy.car hc
   obtain ⟨dy,hme⟩:=hy.me
   have hcl:=hy.cl
   refine ⟨_,rfl,iteF ?_⟩
   walk_at "rd"
   refine ⟨A,y,b,dc,c,n,rfl,hy,g,hcb,(g.ca k c hc).2.1,hgone,_,rfl,?_⟩
   have k2:AnsL H Q (Km415.only ((Km415.bit (y.can c n):Nat):Int)):=k1
   cases hf:y.can c n with
   | true =>
    rw [hf] at k2
    exact iteT ⟨by show 1≤sizeLine;decide,fun p hp=>k2.fin (Same.refl H) hp rfl⟩
   | false =>
    rw [hf] at k2
    exact iteF ⟨by show 1≤sizeLine;decide,fun p hp=>k2.fin (Same.refl H) hp rfl⟩
theorem bitsOf_off {y:Km415.Yard} (g:Good y) {k:Nat} {c:Km415.Car} (hc:y.cars[k]?=some c) {b:Nat} (hb:b < 2^y.types.length):Km415.bitsOf (y.off c b)=y.closed c 8 b :=
 bitsOf_kinds (Nat.lt_of_lt_of_le (g.closed_lt hc hb) (Nat.pow_le_pow_right (by decide) g.tl))
theorem two_lt {n m:Nat} (h:n < m):2^n < 2^m:=Nat.pow_lt_pow_right (by decide) h
theorem ok_ask_must (F:Fun K "ask_must" "ask_must" s_ask_must f fd) (T:Txt K mg t) (F_car_is_there:Fd P w K mg base "car_is_there" 1 ["yard","k"] (sp_car_is_there t)) (F_has_part:Fd P w K mg base "has_part" 1 ["car","t"] (sp_has_part t))
  (F_must_come_off:Fd P w K mg base "must_come_off" 1 ["yard","car","wanted"] (sp_must_come_off t)) (F_minutes_of:Fd P w K mg base "minutes_of" 2 ["yard","bits"] (sp_minutes_of t)):FnOk P w K mg base CX0 3 f fd ["yard","k","t"] (sp_ask2 t .closure):=by
 refine F.ok sc_ask_must (fun vs H Q E h=>?_) (fun cdv _ outer s H vs Q E hr h=>?_)
 ·obtain ⟨A,y,k,n,rfl,_⟩:=h;rfl
 ·obtain ⟨A,y,k,n,rfl,hy,g,kk⟩:=h
  have nd:=sc_ask_must.nd
  have k1:AnsL H Q (match y.live k with
   | none=>Km415.only (-2)
   | some c=>if c.has.testBit n=false then Km415.only (-6) else ⟨((y.time c (2^n):Nat):Int),[Km415.bitsOf (y.off c (2^n))]⟩):=kk
  refine ⟨_,(pss_cons (ps_if (pt_not (pt_val (pe_fn F_car_is_there (hr.mono (by decide)) rfl (pa_cons (pv 0) (pa_cons (pv 1) pa_nil))))) (pss_one (ps_ret (pe_lst (pa_cons (pe_gi rfl T.g_NOT_THERE) pa_nil)))) pss_nil) (pss_cons (ps_set (i:=3) nd rfl (by walk_at "lo") (pe_ix (ix_listK K) (pe_fldK K (pv 0) rfl) (pv 1) (fun _ _=>rfl))) (pss_cons (ps_if (pt_not (pt_val (pe_fn F_has_part (hr.mono (by decide)) rfl (pa_cons (pv 3) (pa_cons (pv 2) pa_nil))))) (pss_one (ps_ret (pe_lst (pa_cons (pe_gi rfl T.g_NOT_HAD) pa_nil)))) pss_nil) (pss_cons (ps_set (i:=4) nd rfl (by walk_at "lo") (pe_fn F_must_come_off (hr.mono (by decide)) rfl (pa_cons (pv 0) (pa_cons (pv 3) (pa_cons (pe_op op_shl pe_int (pv 2)) pa_nil))))) (pss_one (ps_ret (pe_lst (pa_cons (pe_fn F_minutes_of (hr.mono (by decide)) rfl (pa_cons (pv 0) (pa_cons (pv 4) pa_nil))) (pa_cons (pv 4) pa_nil))))))))),?_⟩
  walk_at "rd"
  refine ⟨A,y,k,rfl,hy,?_⟩
  cases hlv:y.live k with
  | none =>
   rw [hlv] at k1
   exact ⟨_,rfl,iteT ⟨by show 1≤sizeLine;decide,fun p hp=>k1.fin (Same.refl H) hp rfl⟩⟩
  | some c =>
   rw [hlv] at k1
   obtain ⟨hc,hgone⟩:=live_get hlv
   obtain ⟨b,dc,hb,hbr,hcb⟩:=hy.car hc
   obtain ⟨dy,hme⟩:=hy.me
   have hcl:=hy.cl
   have k2:AnsL H Q (if c.has.testBit n=false then Km415.only (-6) else ⟨((y.time c (2^n):Nat):Int),[Km415.bitsOf (y.off c (2^n))]⟩):=k1
   refine ⟨_,rfl,iteF ?_⟩
   walk_at "rd"
   refine ⟨b,dc,c,n,rfl,hcb,_,rfl,?_⟩
   by_cases hh:c.has.testBit n=true
   ·rw [hh]
    rw [if_neg (by rw [hh];decide)] at k2
    have hnt:=lt_of_testBit (g.ca k c hc).2.1 hh
    have hn8:n < 8:=Nat.lt_of_lt_of_le hnt g.tl
    rw [bitsOf_off g hc (two_lt hnt)] at k2
    refine iteF ?_
    walk_at "rd"
    refine ⟨⟨by omega,by omega,by decide⟩,?_⟩
    refine ⟨A,y,b,dc,c,2^n,?_,hy,g,hcb,?_⟩
    ·show [V.ref A.a,V.ref b,V.int (1 * 2^((n:Int)).toNat)]=_
     rw [pow_nat n]
    walk_at "rd"
    refine ⟨A,y,y.closed c 8 (2^n),rfl,hy,g.tl,g.closed_lt hc (two_lt hnt),fun H1 s1=>?_⟩
    walk_at "rd"
    exact ⟨by show 2≤sizeLine;decide,fun p hp=>k2.fin s1 hp rfl⟩
   ·rw [Bool.not_eq_true _ |>.mp hh]
    rw [if_pos (Bool.not_eq_true _ |>.mp hh)] at k2
    exact iteT ⟨by show 1≤sizeLine;decide,fun p hp=>k2.fin (Same.refl H) hp rfl⟩
theorem ok_ask_harm (F:Fun K "ask_harm" "ask_harm" s_ask_harm f fd) (T:Txt K mg t) (F_car_is_there:Fd P w K mg base "car_is_there" 1 ["yard","k"] (sp_car_is_there t)) (F_harmful_kinds:Fd P w K mg base "harmful_kinds" 1 ["yard"] (sp_harmful_kinds t))
  (F_kinds_in:Fd P w K mg base "kinds_in" 1 ["bits"] sp_kinds_in) (F_must_come_off:Fd P w K mg base "must_come_off" 1 ["yard","car","wanted"] (sp_must_come_off t)) (F_minutes_of:Fd P w K mg base "minutes_of" 2 ["yard","bits"] (sp_minutes_of t)) :
  FnOk P w K mg base CX0 3 f fd ["yard","k"] (sp_ask1 t .harm):=by
 refine F.ok sc_ask_harm (fun vs H Q E h=>?_) (fun cdv _ outer s H vs Q E hr h=>?_)
 ·obtain ⟨A,y,k,rfl,_⟩:=h;rfl
 ·obtain ⟨A,y,k,rfl,hy,g,kk⟩:=h
  have nd:=sc_ask_harm.nd
  have k1:AnsL H Q (match y.live k with
   | none=>Km415.only (-2)
   | some c=>⟨(((y.bad c).length:Nat):Int),[Km415.bitsOf (y.bad c),y.time c (Km415.bitsOf (y.bad c))]⟩):=kk
  refine ⟨_,(pss_cons (ps_if (pt_not (pt_val (pe_fn F_car_is_there (hr.mono (by decide)) rfl (pa_cons (pv 0) (pa_cons (pv 1) pa_nil))))) (pss_one (ps_ret (pe_lst (pa_cons (pe_gi rfl T.g_NOT_THERE) pa_nil)))) pss_nil) (pss_cons (ps_set (i:=2) nd rfl (by walk_at "lo") (pe_ix (ix_listK K) (pe_fldK K (pv 0) rfl) (pv 1) (fun _ _=>rfl))) (pss_cons (ps_set (i:=3) nd rfl (by walk_at "lo") (pe_op op_and (pe_fldK K (pv 2) rfl) (pe_fn F_harmful_kinds (hr.mono (by decide)) rfl (pa_cons (pv 0) pa_nil)))) (pss_one (ps_ret (pe_lst (pa_cons (pe_callB (call_lenK K) (by rfl) T.b_len PySem.boot_len (pa_cons (pe_fn F_kinds_in (hr.mono (by decide)) rfl (pa_cons (pv 3) pa_nil)) pa_nil)) (pa_cons (pv 3) (pa_cons (pe_fn F_minutes_of (hr.mono (by decide)) rfl (pa_cons (pv 0) (pa_cons (pe_fn F_must_come_off (hr.mono (by decide)) rfl (pa_cons (pv 0) (pa_cons (pv 2) (pa_cons (pv 3) pa_nil)))) pa_nil))) pa_nil))))))))),?_⟩
  walk_at "rd"
  refine ⟨A,y,k,rfl,hy,?_⟩
  cases hlv:y.live k with
  | none =>
   rw [hlv] at k1
   exact ⟨_,rfl,iteT ⟨by show 1≤sizeLine;decide,fun p hp=>k1.fin (Same.refl H) hp rfl⟩⟩
  | some c =>
   rw [hlv] at k1
   obtain ⟨hc,hgone⟩:=live_get hlv
   obtain ⟨b,dc,hb,hbr,hcb⟩:=hy.car hc
   obtain ⟨dy,hme⟩:=hy.me
   have hcl:=hy.cl
   have k2:AnsL H Q ⟨(((y.bad c).length:Nat):Int),[Km415.bitsOf (y.bad c),y.time c (Km415.bitsOf (y.bad c))]⟩:=k1
   have hhas:=(g.ca k c hc).2.1
   refine ⟨_,rfl,iteF ?_⟩
   walk_at "rd"
   refine ⟨A,y,rfl,hy,g,fun H1 s1=>?_⟩
   have hme1:=s1 _ _ hme
   have hcl1:=s1 _ _ hcl
   have hcb1:=s1 _ _ hcb
   clear hme hcl hcb
   have e0:V.int (Builtin.bitAnd ((c.has:Nat):Int) ((harmN y y.types.length:Nat):Int))=iN (Km415.bitsOf (y.bad c)):=by rw [and_nat,harm_and c hhas g.tl]
   have hbl:Km415.bitsOf (y.bad c) < 2^y.types.length:=by
    rw [←harm_and c hhas g.tl]
    exact Nat.lt_of_le_of_lt Nat.and_le_left hhas
   have hb8:Km415.bitsOf (y.bad c) < 2^8:=Nat.lt_of_lt_of_le hbl (Nat.pow_le_pow_right (by decide) g.tl)
   have ekb:Km415.kinds 8 (Km415.bitsOf (y.bad c))=y.bad c:=by
    unfold Km415.kinds
    have hf:((List.range 8).filter fun u=>(Km415.bitsOf (y.bad c)).testBit u)=(List.range 8).filter fun u=>(y.bad c).contains u:=by
     apply List.filter_congr
     intro u _
     exact testBit_bitsOf _ _
    rw [hf]
    unfold Km415.Yard.bad Km415.kinds
    rw [List.filter_filter]
    apply List.filter_congr
    intro u hu
    rw [Bool.eq_iff_iff,contains_iff,List.mem_filter]
    exact ⟨fun q=>q.2,fun q=>⟨hu,q⟩⟩
   refine ⟨_,_,rfl,rfl,?_⟩
   show gName 3 (V.int (Builtin.bitAnd ((c.has:Nat):Int) ((harmN y y.types.length:Nat):Int))) _ _ _
   rw [e0]
   walk_at "rd"
   refine ⟨hb8,fun H2 p s2 hp hl=>?_⟩
   rw [ekb] at hl
   have hcb2:=s2 _ _ hcb1
   walk_at "rd"
   refine ⟨A,y,b,dc,c,Km415.bitsOf (y.bad c),rfl,hy.same (s1.trans s2),g,hcb2,?_⟩
   walk_at "rd"
   refine ⟨A,y,y.closed c 8 (Km415.bitsOf (y.bad c)),rfl,hy.same (s1.trans s2),g.tl,g.closed_lt hc hbl,fun H3 s3=>?_⟩
   walk_at "rd"
   refine ⟨by show 3≤sizeLine;decide,fun q hq=>k2.fin ((s1.trans s2).trans s3) hq ?_⟩
   rw [told_mk,List.length_map];rfl
theorem ok_ask_find (F:Fun K "ask_find" "ask_find" s_ask_find f fd) (T:Txt K mg t) (F_kind_is_there:Fd P w K mg base "kind_is_there" 1 ["yard","t"] (sp_kind_is_there t)) (F_model_is_there:Fd P w K mg base "model_is_there" 1 ["yard","m"] (sp_model_is_there t))
  (F_stock_place:Fd P w K mg base "stock_place" 2 ["yard","t","model"] (sp_stock_place t)):FnOk P w K mg base CX0 3 f fd ["yard","t","m"] (sp_ask2 t .find):=by
 refine F.ok sc_ask_find (fun vs H Q E h=>?_) (fun cdv _ outer s H vs Q E hr h=>?_)
 ·obtain ⟨A,y,u,m,rfl,_⟩:=h;rfl
 ·obtain ⟨A,y,u,m,rfl,hy,g,kk⟩:=h
  have nd:=sc_ask_find.nd
  have k1:AnsL H Q (if y.types.length≤u∨y.models.length≤m then Km415.only (-2) else match y.find u m with
   | none=>Km415.only (-33)
   | some i=>Km415.only ((i:Nat):Int)):=kk
  refine ⟨_,(pss_cons (ps_if (PW.pt (pw_or (pt_not (pt_val (pe_fn F_kind_is_there (hr.mono (by decide)) rfl (pa_cons (pv 0) (pa_cons (pv 1) pa_nil))))) (pw_or1 (pt_not (pt_val (pe_fn F_model_is_there (hr.mono (by decide)) rfl (pa_cons (pv 0) (pa_cons (pv 2) pa_nil)))))))) (pss_one (ps_ret (pe_lst (pa_cons (pe_gi rfl T.g_NOT_THERE) pa_nil)))) pss_nil) (pss_cons (ps_set (i:=3) nd rfl (by walk_at "lo") (pe_fn F_stock_place (hr.mono (by decide)) rfl (pa_cons (pv 0) (pa_cons (pv 1) (pa_cons (pv 2) pa_nil))))) (pss_one (ps_ret (pe_lst (pa_cons (pe_ifExp (pt_cmp (pc_isN (pv 3))) (pe_gi rfl T.g_NO_WAY) (pv 3)) pa_nil)))))),?_⟩
  walk_at "rd"
  refine ⟨A,y,u,rfl,hy,_,rfl,?_⟩
  by_cases h1:u < y.types.length
  ·rw [decide_eq_true h1]
   refine iteF ?_
   walk_at "rd"
   refine ⟨A,y,m,rfl,hy,_,rfl,?_⟩
   by_cases h2:m < y.models.length
   ·rw [decide_eq_true h2]
    rw [if_neg (by omega)] at k1
    refine iteF ?_
    walk_at "rd"
    refine ⟨A,y,u,m,rfl,hy,g,Nat.lt_of_lt_of_le h1 g.tl,h2,fun H1 s1=>?_⟩
    cases hf:y.find u m with
    | none =>
     rw [hf] at k1
     walk_at "rd"
     exact ⟨by show 1≤sizeLine;decide,fun p hp=>k1.fin s1 hp rfl⟩
    | some i =>
     rw [hf] at k1
     walk_at "rd"
     exact ⟨by show 1≤sizeLine;decide,fun p hp=>k1.fin s1 hp rfl⟩
   ·rw [decide_eq_false h2]
    rw [if_pos (.inr (by omega))] at k1
    exact iteT ⟨by show 1≤sizeLine;decide,fun p hp=>k1.fin (Same.refl H) hp rfl⟩
  ·rw [decide_eq_false h1]
   rw [if_pos (.inl (by omega))] at k1
   exact iteT (iteT ⟨by show 1≤sizeLine;decide,fun p hp=>k1.fin (Same.refl H) hp rfl⟩)
theorem ok_ask_from (F:Fun K "ask_from" "ask_from" s_ask_from f fd) (T:Txt K mg t) (F_kind_is_there:Fd P w K mg base "kind_is_there" 1 ["yard","t"] (sp_kind_is_there t)) (F_model_is_there:Fd P w K mg base "model_is_there" 1 ["yard","m"] (sp_model_is_there t))
  (F_cars_that_give:Fd P w K mg base "cars_that_give" 3 ["yard","t","model"] (sp_cars_that_give t)) (F_bits_of:Fd P w K mg base "bits_of" 1 ["numbers"] sp_bits_of):FnOk P w K mg base CX0 4 f fd ["yard","t","m"] (sp_ask2 t .from_):=by
 refine F.ok sc_ask_from (fun vs H Q E h=>?_) (fun cdv _ outer s H vs Q E hr h=>?_)
 ·obtain ⟨A,y,u,m,rfl,_⟩:=h;rfl
 ·obtain ⟨A,y,u,m,rfl,hy,g,kk⟩:=h
  have nd:=sc_ask_from.nd
  have k1:AnsL H Q (if y.types.length≤u∨y.models.length≤m then Km415.only (-2) else ⟨(((y.from_ u m).length:Nat):Int),[Km415.bitsOf (y.from_ u m)]⟩):=kk
  refine ⟨_,(pss_cons (ps_if (PW.pt (pw_or (pt_not (pt_val (pe_fn F_kind_is_there (hr.mono (by decide)) rfl (pa_cons (pv 0) (pa_cons (pv 1) pa_nil))))) (pw_or1 (pt_not (pt_val (pe_fn F_model_is_there (hr.mono (by decide)) rfl (pa_cons (pv 0) (pa_cons (pv 2) pa_nil)))))))) (pss_one (ps_ret (pe_lst (pa_cons (pe_gi rfl T.g_NOT_THERE) pa_nil)))) pss_nil) (pss_cons (ps_set (i:=3) nd rfl (by walk_at "lo") (pe_fn F_cars_that_give (hr.mono (by decide)) rfl (pa_cons (pv 0) (pa_cons (pv 1) (pa_cons (pv 2) pa_nil))))) (pss_one (ps_ret (pe_lst (pa_cons (pe_callB (call_lenK K) (by rfl) T.b_len PySem.boot_len (pa_cons (pv 3) pa_nil)) (pa_cons (pe_fn F_bits_of (hr.mono (by decide)) rfl (pa_cons (pv 3) pa_nil)) pa_nil))))))),?_⟩
  walk_at "rd"
  refine ⟨A,y,u,rfl,hy,_,rfl,?_⟩
  by_cases h1:u < y.types.length
  ·rw [decide_eq_true h1]
   refine iteF ?_
   walk_at "rd"
   refine ⟨A,y,m,rfl,hy,_,rfl,?_⟩
   by_cases h2:m < y.models.length
   ·rw [decide_eq_true h2]
    rw [if_neg (by omega)] at k1
    refine iteF ?_
    walk_at "rd"
    refine ⟨A,y,u,m,rfl,hy,g,h2,fun H1 p s1 hp hl=>?_⟩
    walk_at "rd"
    refine ⟨p,_,rfl,hl,fun n hn=>?_,?_⟩
    ·obtain ⟨c,hc,_⟩:=from_mem hn
     have:=(List.getElem?_eq_some_iff.mp hc).1
     have:=g.cl
     omega
    ·refine ⟨by show 2≤sizeLine;decide,fun q hq=>k1.fin s1 hq ?_⟩
     rw [told_mk,List.length_map];rfl
   ·rw [decide_eq_false h2]
    rw [if_pos (.inr (by omega))] at k1
    exact iteT ⟨by show 1≤sizeLine;decide,fun p hp=>k1.fin (Same.refl H) hp rfl⟩
  ·rw [decide_eq_false h1]
   rw [if_pos (.inl (by omega))] at k1
   exact iteT (iteT ⟨by show 1≤sizeLine;decide,fun p hp=>k1.fin (Same.refl H) hp rfl⟩)
theorem ok_ask_lacking (F:Fun K "ask_lacking" "ask_lacking" s_ask_lacking f fd) (T:Txt K mg t) (F_model_is_there:Fd P w K mg base "model_is_there" 1 ["yard","m"] (sp_model_is_there t)) (F_names_missing_kind:Fd P w K mg base "names_missing_kind" 1 ["yard","bits"] (sp_names_missing_kind t))
  (F_lacking:Fd P w K mg base "lacking" 3 ["yard","model","wanted"] (sp_lacking t)) (F_bits_of:Fd P w K mg base "bits_of" 1 ["numbers"] sp_bits_of):FnOk P w K mg base CX0 4 f fd ["yard","m","wanted"] (sp_ask2 t .lacking):=by
 refine F.ok sc_ask_lacking (fun vs H Q E h=>?_) (fun cdv _ outer s H vs Q E hr h=>?_)
 ·obtain ⟨A,y,m,b,rfl,_⟩:=h;rfl
 ·obtain ⟨A,y,m,b,rfl,hy,g,kk⟩:=h
  have nd:=sc_ask_lacking.nd
  have k1:AnsL H Q (if y.models.length≤m then Km415.only (-2) else if 2^y.types.length≤b then Km415.only (-22) else ⟨(((y.lacking m b).length:Nat):Int),[Km415.bitsOf (y.lacking m b)]⟩):=kk
  refine ⟨_,(pss_cons (ps_if (pt_not (pt_val (pe_fn F_model_is_there (hr.mono (by decide)) rfl (pa_cons (pv 0) (pa_cons (pv 1) pa_nil))))) (pss_one (ps_ret (pe_lst (pa_cons (pe_gi rfl T.g_NOT_THERE) pa_nil)))) pss_nil) (pss_cons (ps_if (pt_val (pe_fn F_names_missing_kind (hr.mono (by decide)) rfl (pa_cons (pv 0) (pa_cons (pv 2) pa_nil)))) (pss_one (ps_ret (pe_lst (pa_cons (pe_gi rfl T.g_NOT_AS_TOLD) pa_nil)))) pss_nil) (pss_cons (ps_set (i:=3) nd rfl (by walk_at "lo") (pe_fn F_lacking (hr.mono (by decide)) rfl (pa_cons (pv 0) (pa_cons (pv 1) (pa_cons (pv 2) pa_nil))))) (pss_one (ps_ret (pe_lst (pa_cons (pe_callB (call_lenK K) (by rfl) T.b_len PySem.boot_len (pa_cons (pv 3) pa_nil)) (pa_cons (pe_fn F_bits_of (hr.mono (by decide)) rfl (pa_cons (pv 3) pa_nil)) pa_nil)))))))),?_⟩
  walk_at "rd"
  refine ⟨A,y,m,rfl,hy,_,rfl,?_⟩
  by_cases h1:m < y.models.length
  ·rw [decide_eq_true h1]
   rw [if_neg (by omega)] at k1
   refine iteF ?_
   walk_at "rd"
   refine ⟨A,y,b,rfl,hy,_,rfl,?_⟩
   by_cases h2:2^y.types.length≤b
   ·rw [decide_eq_true h2]
    rw [if_pos h2] at k1
    exact iteT ⟨by show 1≤sizeLine;decide,fun p hp=>k1.fin (Same.refl H) hp rfl⟩
   ·rw [decide_eq_false h2]
    rw [if_neg h2] at k1
    refine iteF ?_
    walk_at "rd"
    refine ⟨A,y,m,b,rfl,hy,g,h1,Nat.lt_of_not_le h2,fun H1 p s1 hp hl=>?_⟩
    walk_at "rd"
    refine ⟨p,_,rfl,hl,fun n hn=>?_,?_⟩
    ·have hk:=(mem_kinds.mp (List.mem_filter.mp hn).1).1
     have:n < 8:=hk
     omega
    ·refine ⟨by show 2≤sizeLine;decide,fun q hq=>k1.fin s1 hq ?_⟩
     rw [told_mk,List.length_map];rfl
  ·rw [decide_eq_false h1]
   rw [if_pos (by omega)] at k1
   exact iteT ⟨by show 1≤sizeLine;decide,fun p hp=>k1.fin (Same.refl H) hp rfl⟩
theorem ok_ask_part (F:Fun K "ask_part" "ask_part" s_ask_part f fd) (T:Txt K mg t) (F_part_is_there:Fd P w K mg base "part_is_there" 1 ["yard","i"] (sp_part_is_there t)):FnOk P w K mg base CX0 2 f fd ["yard","i"] (sp_ask1 t .part):=by
 refine F.ok sc_ask_part (fun vs H Q E h=>?_) (fun cdv _ outer s H vs Q E hr h=>?_)
 ·obtain ⟨A,y,i,rfl,_⟩:=h;rfl
 ·obtain ⟨A,y,i,rfl,hy,g,kk⟩:=h
  have nd:=sc_ask_part.nd
  have k1:AnsL H Q (match y.stock.getD i none with
   | none=>Km415.only (-2)
   | some p=>⟨((p.kind:Nat):Int),[p.model,y.kgOf p.kind]⟩):=kk
  refine ⟨_,(pss_cons (ps_if (pt_not (pt_val (pe_fn F_part_is_there (hr.mono (by decide)) rfl (pa_cons (pv 0) (pa_cons (pv 1) pa_nil))))) (pss_one (ps_ret (pe_lst (pa_cons (pe_gi rfl T.g_NOT_THERE) pa_nil)))) pss_nil) (pss_cons (ps_set (i:=2) nd rfl (by walk_at "lo") (pe_ix (ix_tupK K) (pe_ix (ix_listK K) (pe_fldK K (pv 0) rfl) (pv 1) (fun _ _=>rfl)) pe_int (fun _ _=>rfl))) (pss_one (ps_ret (pe_lst (pa_cons (pv 2) (pa_cons (pe_ix (ix_tupK K) (pe_ix (ix_listK K) (pe_fldK K (pv 0) rfl) (pv 1) (fun _ _=>rfl)) pe_int (fun _ _=>rfl)) (pa_cons (pe_fldK K (pe_ix (ix_listK K) (pe_fldK K (pv 0) rfl) (pv 2) (fun _ _=>rfl)) rfl) pa_nil)))))))),?_⟩
  walk_at "rd"
  refine ⟨A,y,i,rfl,hy,g,_,rfl,?_⟩
  cases hp:y.stock.getD i none with
  | none =>
   rw [hp] at k1
   exact iteT ⟨by show 1≤sizeLine;decide,fun p hp=>k1.fin (Same.refl H) hp rfl⟩
  | some p =>
   rw [hp] at k1
   have hx:y.stock[i]?=some (some p):=by
    rw [List.getD_eq_getElem?_getD] at hp
    cases e:y.stock[i]? with
    | none=>rw [e] at hp;cases hp
    | some o=>rw [e] at hp;exact congrArg some hp
   obtain ⟨gk,gm⟩:=g.st i p hx
   obtain ⟨v,hv,hpa⟩:=hy.part hx
   obtain ⟨b,rfl,hb⟩:=hpa
   obtain ⟨dy,hme⟩:=hy.me
   have hsl:=hy.sl
   have hkl:=hy.kl
   have hz:y.types[p.kind]?=some y.types[p.kind]:=List.getElem?_eq_getElem gk
   obtain ⟨bk,dk,hbk,hkk⟩:=hy.kind hz
   have e0:([iN p.kind,iN p.model]:List V)[0]?=some (iN p.kind):=rfl
   have e1:([iN p.kind,iN p.model]:List V)[1]?=some (iN p.model):=rfl
   refine iteF ?_
   walk_at "rd"
   refine ⟨b,_,(1:Nat),_,rfl,rfl,SqT.of hb,atI_nat e1,?_⟩
   walk_at "rd"
   refine ⟨by show 3≤sizeLine;decide,fun q hq=>k1.fin (Same.refl H) hq ?_⟩
   rw [told_mk]
   have e:y.kgOf p.kind=(y.types[p.kind]).kg:=by unfold Km415.Yard.kgOf;rw [hz]
   rw [e];rfl
theorem ok_ask_next (F:Fun K "ask_next" "ask_next" s_ask_next f fd) (T:Txt K mg t) (F_car_is_there:Fd P w K mg base "car_is_there" 1 ["yard","k"] (sp_car_is_there t)) (F_kinds_in:Fd P w K mg base "kinds_in" 1 ["bits"] sp_kinds_in)
  (F_may_come_off:Fd P w K mg base "may_come_off" 2 ["yard","car","t"] (sp_may_come_off t)) (F_bits_of:Fd P w K mg base "bits_of" 1 ["numbers"] sp_bits_of):FnOk P w K mg base CX0 3 f fd ["yard","k"] (sp_ask1 t .next):=by
 refine F.ok sc_ask_next (fun vs H Q E h=>?_) (fun cdv _ outer s H vs Q E hr h=>?_)
 ·obtain ⟨A,y,k,rfl,_⟩:=h;rfl
 ·obtain ⟨A,y,k,rfl,hy,g,kk⟩:=h
  have nd:=sc_ask_next.nd
  have k1:AnsL H Q (match y.live k with
   | none=>Km415.only (-2)
   | some c=>⟨((((List.range Km415.TYPES).filter (y.can c)).length:Nat):Int),[Km415.bitsOf ((List.range Km415.TYPES).filter (y.can c))]⟩):=kk
  refine ⟨_,(pss_cons (ps_if (pt_not (pt_val (pe_fn F_car_is_there (hr.mono (by decide)) rfl (pa_cons (pv 0) (pa_cons (pv 1) pa_nil))))) (pss_one (ps_ret (pe_lst (pa_cons (pe_gi rfl T.g_NOT_THERE) pa_nil)))) pss_nil) (pss_cons (ps_set (i:=2) nd rfl (by walk_at "lo") (pe_ix (ix_listK K) (pe_fldK K (pv 0) rfl) (pv 1) (fun _ _=>rfl))) (pss_cons (ps_setLc (i:=3) rfl nd rfl rfl (sw_true rfl rfl rfl rfl) (pi_listK K (pe_fn F_kinds_in (hr.mono (by decide)) rfl (pa_cons (pe_fldK K (pv 2) rfl) pa_nil))) (blkOk_by (own:=[("t",4)]) rfl) (fun _ _ _ _ _=>(pg_name (i:=4) nd rfl (by walk_at "lo"))) (fun _ _ _ _ _=>(pts_one (pt_val (pe_fn F_may_come_off (hr.mono (by decide)) rfl (pa_cons (pv 0) (pa_cons (pv 2) (pa_cons (pv 4) pa_nil))))))) (fun _ _ _ _ _=>(pv 4))) (pss_one (ps_ret (pe_lst (pa_cons (pe_callB (call_lenK K) (by rfl) T.b_len PySem.boot_len (pa_cons (pv 3) pa_nil)) (pa_cons (pe_fn F_bits_of (hr.mono (by decide)) rfl (pa_cons (pv 3) pa_nil)) pa_nil)))))))),?_⟩
  walk_at "rd"
  refine ⟨A,y,k,rfl,hy,?_⟩
  cases hlv:y.live k with
  | none =>
   rw [hlv] at k1
   exact ⟨_,rfl,iteT ⟨by show 1≤sizeLine;decide,fun p hp=>k1.fin (Same.refl H) hp rfl⟩⟩
  | some c =>
   rw [hlv] at k1
   have k2:AnsL H Q ⟨((((List.range Km415.TYPES).filter (y.can c)).length:Nat):Int),[Km415.bitsOf ((List.range Km415.TYPES).filter (y.can c))]⟩:=k1
   obtain ⟨hc,hgone⟩:=live_get hlv
   obtain ⟨b,dc,hb,hbr,hcb⟩:=hy.car hc
   obtain ⟨dy,hme⟩:=hy.me
   have hcl:=hy.cl
   have hhas:=(g.ca k c hc).2.1
   have hcan:(List.range Km415.TYPES).filter (y.can c)=(Km415.kinds 8 c.has).filter (y.can c):=by
    unfold Km415.kinds
    rw [List.filter_filter]
    apply List.filter_congr
    intro u _
    cases e:y.can c u with
    | false=>rfl
    | true =>
     unfold Km415.Yard.can at e
     simp only [Bool.and_eq_true] at e
     rw [e.2.2.1];rfl
   rw [hcan] at k2
   refine ⟨_,rfl,iteF ?_⟩
   walk_at "rd"
   refine ⟨g.has8 hc,fun H1 p s1 hp hl=>?_⟩
   refine ⟨p,rfl,⟨_,SqL.of hl⟩,fun D hD=>?_⟩
   refine lc_list (K:=K) (a:=p) (xs:=(Km415.kinds 8 c.has).map iN) (fun i H'=>Same H1 H'∧H' D=some (.lst ((((Km415.kinds 8 c.has).take i).filter (y.can c)).map iN))) ⟨same_new hD,upd_same⟩ (fun i H' _ ⟨s2,_⟩=>SqL.of (s2 _ _ hl)) ?_ ?_
   ·rintro i x H' hx ⟨s2,hD'⟩
    obtain ⟨n,hn,rfl⟩:=map_get hx
    have s12:=s1.trans s2
    refine ⟨rfl,?_⟩
    walk_at "rd"
    refine ⟨A,y,b,dc,c,n,rfl,hy.same s12,g,s12 _ _ hcb,hhas,hgone,_,rfl,?_⟩
    rw [take_snoc hn,List.filter_append]
    cases e:y.can c n with
    | true =>
     refine iteT ⟨_,rfl,_,hD',small ?_,same_upd s2 hD,?_⟩
     ·rw [List.length_map]
      have h1:=List.length_filter_le (y.can c) ((Km415.kinds 8 c.has).take i)
      rw [List.length_take] at h1
      have h2:=kinds_length_le 8 c.has
      omega
     ·rw [upd_same,List.map_append]
      simp only [List.filter_cons,e,if_true,List.filter_nil,List.map_cons,List.map_nil]
    | false =>
     refine iteF ⟨s2,?_⟩
     rw [hD']
     simp only [List.filter_cons,e,Bool.false_eq_true,if_false,List.filter_nil,List.append_nil]
   ·rintro H' ⟨s2,hD'⟩
    rw [List.length_map,List.take_length] at hD'
    walk_at "rd"
    refine ⟨D,_,rfl,hD',fun n hn=>?_,?_⟩
    ·have hk:=(mem_kinds.mp (List.mem_filter.mp hn).1).1
     have:n < 8:=hk
     omega
    ·refine ⟨by show 2≤sizeLine;decide,fun q hq=>k2.fin (s1.trans s2) hq ?_⟩
     rw [told_mk,List.length_map];rfl
end
end Y58
namespace Y58
open PySem PySem.Spec PyProof.Rows L2
abbrev s_stock_kilograms:Stmt:=top 30
theorem sc_stock_kilograms:FnScope ["yard","part"] ["yard"] (defScope s_stock_kilograms):=by walk_at "sc"
abbrev s_ask_weights:Stmt:=top 31
theorem sc_ask_weights:FnScope ["yard","in_cars","car"] ["yard"] (defScope s_ask_weights):=by walk_at "sc"
abbrev s_ask_litres:Stmt:=top 32
theorem sc_ask_litres:FnScope ["yard","in_cars","car"] ["yard"] (defScope s_ask_litres):=by walk_at "sc"
abbrev s_ask_money:Stmt:=top 33
theorem sc_ask_money:FnScope ["yard"] ["yard"] (defScope s_ask_money):=by walk_at "sc"
abbrev s_ask_count:Stmt:=top 72
theorem sc_ask_count:FnScope ["yard","t","in_stock","part","car"] ["yard","t"] (defScope s_ask_count):=by walk_at "sc"
abbrev s_ask_alike:Stmt:=top 73
theorem sc_ask_alike:FnScope ["yard","t","groups","model"] ["yard","t"] (defScope s_ask_alike):=by walk_at "sc"
section
variable {P:Program} {w:World} {K:PySem.W.Frag} {mg:Str→Option Value} {base:Heap} {t:Adr} {f:Addr} {fd:FuncData}
def sp_ask0 (t:Adr) (c:Km415.Call):Sp:=fun vs H Q _=>∃A y,vs=[.ref A.a]∧YardAt t H A y∧Good y∧AnsL H Q (askA y c)
theorem ok_ask_money (F:Fun K "ask_money" "ask_money" s_ask_money f fd) (T:Txt K mg t):FnOk P w K mg base CX0 1 f fd ["yard"] (sp_ask0 t .money):=by
 refine F.ok sc_ask_money (fun vs H Q E h=>?_) (fun cdv _ outer s H vs Q E hr h=>?_)
 ·obtain ⟨A,y,rfl,_⟩:=h;rfl
 ·obtain ⟨A,y,rfl,hy,g,kk⟩:=h
  have nd:=sc_ask_money.nd
  have k1:AnsL H Q ⟨((y.earned:Nat):Int),[y.minutes]⟩:=kk
  obtain ⟨dy,hme⟩:=hy.me
  refine ⟨_,(pss_one (ps_ret (pe_lst (pa_cons (pe_fldK K (pv 0) rfl) (pa_cons (pe_fldK K (pv 0) rfl) pa_nil))))),?_⟩
  walk_at "rd"
  exact ⟨by show 2≤sizeLine;decide,fun p hp=>k1.fin (Same.refl H) hp rfl⟩
theorem ok_ask_litres (F:Fun K "ask_litres" "ask_litres" s_ask_litres f fd) (T:Txt K mg t):FnOk P w K mg base CX0 1 f fd ["yard"] (sp_ask0 t .litres):=by
 refine F.ok sc_ask_litres (fun vs H Q E h=>?_) (fun cdv _ outer s H vs Q E hr h=>?_)
 ·obtain ⟨A,y,rfl,_⟩:=h;rfl
 ·obtain ⟨A,y,rfl,hy,g,kk⟩:=h
  have nd:=sc_ask_litres.nd
  have k1:AnsL H Q ⟨((y.pumped:Nat):Int),[Km415.sum (y.cars.map fun c=>c.litres),y.tank,y.drunk]⟩:=kk
  obtain ⟨dy,hme⟩:=hy.me
  have hcl:=hy.cl
  have hcn:=hy.cn
  have hc8:=g.cl
  refine ⟨_,(pss_cons (ps_set (i:=1) nd rfl (by walk_at "lo") (pe_callB (cr_sumK K rfl) (by rfl) T.b_sum PyProof.Rows.boot_sum (pa_cons (pe_lc rfl nd (pi_listK K (pe_fldK K (pv 0) rfl)) (blkOk_by (own:=[("car",2)]) rfl) (fun _ _ _ _ _=>(pg_name (i:=2) nd rfl (by walk_at "lo"))) (fun _ _ _ _ _=>pts_nil) (fun _ _ _ _ _=>(pe_fldK K (pv 2) rfl))) pa_nil))) (pss_one (ps_ret (pe_lst (pa_cons (pe_fldK K (pv 0) rfl) (pa_cons (pv 1) (pa_cons (pe_fldK K (pv 0) rfl) (pa_cons (pe_fldK K (pv 0) rfl) pa_nil)))))))),?_⟩
  walk_at "rd"
  refine ⟨⟨_,SqL.of hcl⟩,fun D hD=>?_⟩
  refine lc_list (K:=K) (a:=A.cl) (xs:=A.cs.map V.ref) (fun i H'=>Same H H'∧H' D=some (.lst (((y.cars.take i).map fun c=>c.litres).map iN))) ⟨same_new hD,upd_same⟩ (fun i H' _ ⟨s2,_⟩=>SqL.of (s2 _ _ hcl)) ?_ ?_
  ·rintro i x H' hx ⟨s2,hD'⟩
   obtain ⟨b,hb,rfl⟩:=map_get hx
   obtain ⟨c,hc,⟨dc,hcb⟩⟩:=paired_get' (hy.same s2).cs hb
   refine ⟨rfl,?_⟩
   walk_at "rd"
   refine ⟨_,hD',small ?_,same_upd s2 hD,?_⟩
   ·rw [List.length_map,List.length_map,List.length_take];omega
   ·rw [upd_same,take_snoc hc,List.map_append,List.map_append];rfl
  ·rintro H' ⟨s2,hD'⟩
   rw [hcn,List.take_length] at hD'
   have hme2:=s2 _ _ hme
   refine ⟨D,(y.cars.map fun c=>c.litres).map fun (n:Nat)=>(n:Int),rfl,SqL.of (by rw [hD',iN_int]),?_⟩
   rw [sum_int]
   walk_at "rd"
   exact ⟨by show 4≤sizeLine;decide,fun p hp=>k1.fin s2 hp rfl⟩
def sp_stock_kilograms (t:Adr):Sp:=fun vs H Q _=>∃A y,vs=[.ref A.a]∧YardAt t H A y∧Good y∧∀H',Same H H'→Q (iN (Km415.sum ((Km415.inStock y).map fun p=>y.kgOf p.kind))) H'
theorem ok_stock_kilograms (F:Fun K "stock_kilograms" "stock_kilograms" s_stock_kilograms f fd) (T:Txt K mg t):FnOk P w K mg base CX0 1 f fd ["yard"] (sp_stock_kilograms t):=by
 refine F.ok sc_stock_kilograms (fun vs H Q E h=>?_) (fun cdv _ outer s H vs Q E hr h=>?_)
 ·obtain ⟨A,y,rfl,_⟩:=h;rfl
 ·obtain ⟨A,y,rfl,hy,g,kk⟩:=h
  have nd:=sc_stock_kilograms.nd
  obtain ⟨dy,hme⟩:=hy.me
  have hsl:=hy.sl
  have hsn:=hy.sn
  have hs30:=g.sl
  refine ⟨_,(pss_one (ps_ret (pe_callB (cr_sumK K rfl) (by rfl) T.b_sum PyProof.Rows.boot_sum (pa_cons (pe_lc rfl nd (pi_listK K (pe_fldK K (pv 0) rfl)) (blkOk_by (own:=[("part",1)]) rfl) (fun _ _ _ _ _=>(pg_name (i:=1) nd rfl (by walk_at "lo"))) (fun _ _ _ _ _=>(pts_one (pt_cmp (pc_notN (pv 1))))) (fun _ _ _ _ _=>(pe_fldK K (pe_ix (ix_listK K) (pe_fldK K (pv 0) rfl) (pe_ix (ix_tupK K) (pv 1) pe_int (fun _ _=>rfl)) (fun _ _=>rfl)) rfl))) pa_nil)))),?_⟩
  walk_at "rd"
  refine ⟨⟨_,SqL.of hsl⟩,fun D hD=>?_⟩
  refine lc_list (K:=K) (a:=A.sl) (xs:=A.sv) (fun i H'=>Same H H'∧H' D=some (.lst ((((y.stock.take i).filterMap id).map fun p=>y.kgOf p.kind).map iN))) ⟨same_new hD,upd_same⟩ (fun i H' _ ⟨s2,_⟩=>SqL.of (s2 _ _ hsl)) ?_ ?_
  ·rintro i x H' hx ⟨s2,hD'⟩
   have hy2:=hy.same s2
   obtain ⟨o,ho,hpa⟩:=paired_get' hy2.st hx
   have hi:i < y.stock.length:=(List.getElem?_eq_some_iff.mp ho).1
   refine ⟨rfl,?_⟩
   refine ⟨_,rfl,?_⟩
   rw [take_snoc ho,List.filterMap_append]
   cases o with
   | none =>
    have hp':x=V.non:=hpa
    subst hp'
    refine ⟨_,rfl,?_⟩
    refine iteF ⟨s2,?_⟩
    rw [hD']
    simp
   | some p =>
    obtain ⟨b,rfl,hb⟩:=hpa
    obtain ⟨gk,gm⟩:=g.st i p ho
    obtain ⟨dy2,hme2⟩:=hy2.me
    have hkl2:=hy2.kl
    have hz:y.types[p.kind]?=some y.types[p.kind]:=List.getElem?_eq_getElem gk
    obtain ⟨bk,dk,hbk,hkk⟩:=hy2.kind hz
    have e0:([iN p.kind,iN p.model]:List V)[0]?=some (iN p.kind):=rfl
    refine ⟨_,rfl,?_⟩
    refine iteT ?_
    walk_at "rd"
    refine ⟨b,_,(0:Nat),_,rfl,rfl,SqT.of hb,atI_nat e0,?_⟩
    walk_at "rd"
    refine ⟨_,hD',small ?_,same_upd s2 hD,?_⟩
    ·rw [List.length_map,List.length_map]
     have h1:=List.length_filterMap_le id (y.stock.take i)
     rw [List.length_take] at h1
     omega
    ·have e:y.kgOf p.kind=(y.types[p.kind]).kg:=by unfold Km415.Yard.kgOf;rw [hz]
     rw [upd_same,List.map_append,List.map_append]
     show _=some (HO.lst (_++[iN (y.kgOf p.kind)]))
     rw [e]
  ·rintro H' ⟨s2,hD'⟩
   rw [hsn,List.take_length] at hD'
   refine ⟨D,((Km415.inStock y).map fun p=>y.kgOf p.kind).map fun (n:Nat)=>(n:Int),rfl,SqL.of (by rw [hD',iN_int];rfl),?_⟩
   rw [sum_int]
   exact kk H' s2
theorem ok_ask_weights (F:Fun K "ask_weights" "ask_weights" s_ask_weights f fd) (T:Txt K mg t) (F_stock_kilograms:Fd P w K mg base "stock_kilograms" 1 ["yard"] (sp_stock_kilograms t)):FnOk P w K mg base CX0 2 f fd ["yard"] (sp_ask0 t .weights):=by
 refine F.ok sc_ask_weights (fun vs H Q E h=>?_) (fun cdv _ outer s H vs Q E hr h=>?_)
 ·obtain ⟨A,y,rfl,_⟩:=h;rfl
 ·obtain ⟨A,y,rfl,hy,g,kk⟩:=h
  have nd:=sc_ask_weights.nd
  have k1:AnsL H Q ⟨((y.came:Nat):Int),[Km415.sum (y.cars.map fun c=>c.kg),Km415.sum ((Km415.inStock y).map fun p=>y.kgOf p.kind),y.scrap,y.sold]⟩:=kk
  obtain ⟨dy,hme⟩:=hy.me
  have hcl:=hy.cl
  have hcn:=hy.cn
  have hc8:=g.cl
  refine ⟨_,(pss_cons (ps_set (i:=1) nd rfl (by walk_at "lo") (pe_callB (cr_sumK K rfl) (by rfl) T.b_sum PyProof.Rows.boot_sum (pa_cons (pe_lc rfl nd (pi_listK K (pe_fldK K (pv 0) rfl)) (blkOk_by (own:=[("car",2)]) rfl) (fun _ _ _ _ _=>(pg_name (i:=2) nd rfl (by walk_at "lo"))) (fun _ _ _ _ _=>pts_nil) (fun _ _ _ _ _=>(pe_fldK K (pv 2) rfl))) pa_nil))) (pss_one (ps_ret (pe_lst (pa_cons (pe_fldK K (pv 0) rfl) (pa_cons (pv 1) (pa_cons (pe_fn F_stock_kilograms (hr.mono (by decide)) rfl (pa_cons (pv 0) pa_nil)) (pa_cons (pe_fldK K (pv 0) rfl) (pa_cons (pe_fldK K (pv 0) rfl) pa_nil))))))))),?_⟩
  walk_at "rd"
  refine ⟨⟨_,SqL.of hcl⟩,fun D hD=>?_⟩
  refine lc_list (K:=K) (a:=A.cl) (xs:=A.cs.map V.ref) (fun i H'=>Same H H'∧H' D=some (.lst (((y.cars.take i).map fun c=>c.kg).map iN))) ⟨same_new hD,upd_same⟩ (fun i H' _ ⟨s2,_⟩=>SqL.of (s2 _ _ hcl)) ?_ ?_
  ·rintro i x H' hx ⟨s2,hD'⟩
   obtain ⟨b,hb,rfl⟩:=map_get hx
   obtain ⟨c,hc,⟨dc,hcb⟩⟩:=paired_get' (hy.same s2).cs hb
   refine ⟨rfl,?_⟩
   walk_at "rd"
   refine ⟨_,hD',small ?_,same_upd s2 hD,?_⟩
   ·rw [List.length_map,List.length_map,List.length_take];omega
   ·rw [upd_same,take_snoc hc,List.map_append,List.map_append];rfl
  ·rintro H' ⟨s2,hD'⟩
   rw [hcn,List.take_length] at hD'
   have hme2:=s2 _ _ hme
   refine ⟨D,(y.cars.map fun c=>c.kg).map fun (n:Nat)=>(n:Int),rfl,SqL.of (by rw [hD',iN_int]),?_⟩
   rw [sum_int]
   walk_at "rd"
   refine ⟨A,y,rfl,hy.same s2,g,fun H3 s3=>?_⟩
   have hme3:=s3 _ _ hme2
   clear hme2 hme
   walk_at "rd"
   exact ⟨by show 5≤sizeLine;decide,fun p hp=>k1.fin (s2.trans s3) hp rfl⟩
def isKind (u:Nat):Option Km415.Part→Bool
 | some p=>p.kind==u
 | none=>false
theorem kinds_len (u:Nat):∀l:List (Option Km415.Part),(l.filter (isKind u)).length=((l.filterMap id).filter fun p=>p.kind==u).length
 | []=>rfl
 | none::l=>by
  rw [List.filter_cons,if_neg (by show ¬ (false=true);decide),kinds_len u l];rfl
 | some p::l=>by
  rw [List.filter_cons]
  show List.length (if (p.kind==u)=true then some p::l.filter (isKind u) else l.filter (isKind u))=List.length ((p::l.filterMap id).filter fun p=>p.kind==u)
  rw [List.filter_cons]
  by_cases h:(p.kind==u)=true
  ·rw [if_pos h,if_pos h,List.length_cons,List.length_cons,kinds_len u l]
  ·rw [if_neg h,if_neg h];exact kinds_len u l
theorem range_len {α:Type} (q:Nat→Bool) (p:α→Bool) (l:List α) (hq:∀k c,l[k]?=some c→q k=p c):((List.range l.length).filter q).length=(l.filter p).length:=by
 have key:∀i,i≤l.length→((List.range i).filter q).length=((l.take i).filter p).length:=by
  intro i
  induction i with
  | zero=>intro _;rfl
  | succ i ih =>
   intro hi
   have hx:l[i]?=some l[i]:=List.getElem?_eq_getElem (by omega)
   rw [List.range_succ,List.filter_append,take_snoc hx,List.filter_append,List.length_append,List.length_append,ih (by omega)]
   congr 1
   rw [List.filter_cons,List.filter_cons,hq i _ hx]
   by_cases h:p l[i]=true
   ·rw [if_pos h,if_pos h];rfl
   ·rw [if_neg h,if_neg h];rfl
 have:=key l.length (Nat.le_refl _)
 rw [List.take_length] at this
 exact this
theorem told_two {a b a' b':Nat} (h1:a=a') (h2:b=b'):told ⟨(a:Int),[b]⟩=[.int (a':Int),.int (b':Int)]:=by subst h1 h2;rfl
theorem ok_ask_count (F:Fun K "ask_count" "ask_count" s_ask_count f fd) (T:Txt K mg t) (F_kind_is_there:Fd P w K mg base "kind_is_there" 1 ["yard","t"] (sp_kind_is_there t)) (F_has_part:Fd P w K mg base "has_part" 1 ["car","t"] (sp_has_part t)) :
  FnOk P w K mg base CX0 2 f fd ["yard","t"] (sp_ask1 t .count):=by
 refine F.ok sc_ask_count (fun vs H Q E h=>?_) (fun cdv _ outer s H vs Q E hr h=>?_)
 ·obtain ⟨A,y,u,rfl,_⟩:=h;rfl
 ·obtain ⟨A,y,u,rfl,hy,g,kk⟩:=h
  have nd:=sc_ask_count.nd
  have k1:AnsL H Q (if y.types.length≤u then Km415.only (-2) else ⟨((((Km415.inStock y).filter fun p=>p.kind==u).length:Nat):Int),[((List.range y.cars.length).filter fun k=>match y.cars[k]? with
   | some c=>c.has.testBit u
   | none=>false).length]⟩):=kk
  obtain ⟨dy,hme⟩:=hy.me
  have hsl:=hy.sl
  have hcl:=hy.cl
  have hsn:=hy.sn
  have hs30:=g.sl
  have hcn:=hy.cn
  have hc8:=g.cl
  refine ⟨_,(pss_cons (ps_if (pt_not (pt_val (pe_fn F_kind_is_there (hr.mono (by decide)) rfl (pa_cons (pv 0) (pa_cons (pv 1) pa_nil))))) (pss_one (ps_ret (pe_lst (pa_cons (pe_gi rfl T.g_NOT_THERE) pa_nil)))) pss_nil) (pss_cons (ps_set (i:=2) nd rfl (by walk_at "lo") (pe_callB (call_lenK K) (by rfl) T.b_len PySem.boot_len (pa_cons (pe_lc rfl nd (pi_listK K (pe_fldK K (pv 0) rfl)) (blkOk_by (own:=[("part",3)]) rfl) (fun _ _ _ _ _=>(pg_name (i:=3) nd rfl (by walk_at "lo"))) (fun _ _ _ _ _=>(pts_one (PW.pt (pw_and (pt_cmp (pc_notN (pv 3))) (pw_and1 (pt_cmpR op_eq (pe_ix (ix_tupK K) (pv 3) pe_int (fun _ _=>rfl)) (pv 1) (nomark _))))))) (fun _ _ _ _ _=>(pv 3))) pa_nil))) (pss_one (ps_ret (pe_lst (pa_cons (pv 2) (pa_cons (pe_callB (call_lenK K) (by rfl) T.b_len PySem.boot_len (pa_cons (pe_lc rfl nd (pi_listK K (pe_fldK K (pv 0) rfl)) (blkOk_by (own:=[("car",4)]) rfl) (fun _ _ _ _ _=>(pg_name (i:=4) nd rfl (by walk_at "lo"))) (fun _ _ _ _ _=>(pts_one (pt_val (pe_fn F_has_part (hr.mono (by decide)) rfl (pa_cons (pv 4) (pa_cons (pv 1) pa_nil)))))) (fun _ _ _ _ _=>(pv 4))) pa_nil)) pa_nil))))))),?_⟩
  walk_at "rd"
  refine ⟨A,y,u,rfl,hy,_,rfl,?_⟩
  by_cases h1:u < y.types.length
  ·rw [decide_eq_true h1]
   rw [if_neg (by omega)] at k1
   refine iteF ?_
   walk_at "rd"
   refine ⟨⟨_,SqL.of hsl⟩,fun D hD=>?_⟩
   refine lc_list (K:=K) (a:=A.sl) (xs:=A.sv) (fun i H'=>Same H H'∧∃acc,H' D=some (.lst acc)∧acc.length=((y.stock.take i).filter (isKind u)).length) ⟨same_new hD,[],upd_same,rfl⟩ (fun i H' _ ⟨s2,_⟩=>SqL.of (s2 _ _ hsl)) ?_ ?_
   ·rintro i x H' hx ⟨s2,acc,hD',hacc⟩
    have hy2:=hy.same s2
    obtain ⟨o,ho,hpa⟩:=paired_get' hy2.st hx
    have hi:i < y.stock.length:=(List.getElem?_eq_some_iff.mp ho).1
    have hle:acc.length≤30:=by
     rw [hacc]
     have h1:=List.length_filter_le (isKind u) (y.stock.take i)
     rw [List.length_take] at h1
     omega
    refine ⟨rfl,?_⟩
    refine ⟨_,rfl,?_⟩
    refine ⟨_,rfl,?_⟩
    rw [take_snoc ho,List.filter_append]
    cases o with
    | none =>
     have hp':x=V.non:=hpa
     subst hp'
     refine iteF (iteF ⟨s2,acc,hD',?_⟩)
     rw [List.length_append,hacc];rfl
    | some p =>
     obtain ⟨b,rfl,hb⟩:=hpa
     have e0:([iN p.kind,iN p.model]:List V)[0]?=some (iN p.kind):=rfl
     refine iteT ?_
     refine ⟨_,rfl,?_⟩
     refine ⟨b,_,(0:Nat),_,rfl,rfl,SqT.of hb,atI_nat e0,?_⟩
     walk_at "rd"
     show if decide (V.int ((p.kind:Nat):Int)=V.int ((u:Nat):Int))=true then _ else _
     rw [dec_nat]
     by_cases hu:p.kind=u
     ·rw [decide_eq_true hu]
      refine iteT ?_
      walk_at "rd"
      refine ⟨_,hD',small (by omega),same_upd s2 hD,_,upd_same,?_⟩
      rw [List.length_append,List.length_append,hacc,List.filter_cons,if_pos (by show (p.kind==u)=true;simpa using hu)];rfl
     ·rw [decide_eq_false hu]
      refine iteF ⟨s2,acc,hD',?_⟩
      rw [List.length_append,hacc,List.filter_cons,if_neg (by show ¬ (p.kind==u)=true;simpa using hu)];rfl
   ·rintro H1 ⟨s1,acc,hD1,hacc⟩
    rw [hsn,List.take_length,kinds_len] at hacc
    have hme1:=s1 _ _ hme
    have hcl1:=s1 _ _ hcl
    have hy1:=hy.same s1
    clear hme hcl
    walk_at "rd"
    refine ⟨⟨_,SqL.of hcl1⟩,fun E hE=>?_⟩
    refine lc_list (K:=K) (a:=A.cl) (xs:=A.cs.map V.ref) (fun i H'=>Same H1 H'∧∃acc,H' E=some (.lst acc)∧acc.length=((y.cars.take i).filter fun c=>c.has.testBit u).length) ⟨same_new hE,[],upd_same,rfl⟩ (fun i H' _ ⟨s2,_⟩=>SqL.of (s2 _ _ hcl1)) ?_ ?_
    ·rintro i x H' hx ⟨s2,acc2,hE',hacc2⟩
     obtain ⟨b,hb,rfl⟩:=map_get hx
     obtain ⟨c,hc,⟨dc,hcb⟩⟩:=paired_get' (hy1.same s2).cs hb
     have hle:acc2.length≤8:=by
      rw [hacc2]
      have h1:=List.length_filter_le (fun c:Km415.Car=>c.has.testBit u) (y.cars.take i)
      rw [List.length_take] at h1
      omega
     refine ⟨rfl,?_⟩
     walk_at "rd"
     refine ⟨b,dc,c,u,rfl,hcb,_,rfl,?_⟩
     rw [take_snoc hc,List.filter_append]
     cases e:c.has.testBit u with
     | true =>
      refine iteT ?_
      walk_at "rd"
      refine ⟨_,hE',small (by omega),same_upd s2 hE,_,upd_same,?_⟩
      rw [List.length_append,List.length_append,hacc2,List.filter_cons,if_pos e];rfl
     | false =>
      refine iteF ⟨s2,acc2,hE',?_⟩
      rw [List.length_append,hacc2,List.filter_cons,if_neg (by rw [e];decide)];rfl
    ·rintro H2 ⟨s2,acc2,hE2,hacc2⟩
     rw [hcn,List.take_length] at hacc2
     walk_at "rd"
     refine ⟨by show 2≤sizeLine;decide,fun q hq=>k1.fin (s1.trans s2) hq ?_⟩
     exact told_two hacc.symm ((range_len _ _ _ (fun k c h=>by rw [h])).trans hacc2.symm)
  ·rw [decide_eq_false h1]
   rw [if_pos (by omega)] at k1
   exact iteT ⟨by show 1≤sizeLine;decide,fun p hp=>k1.fin (Same.refl H) hp rfl⟩
theorem ok_ask_alike (F:Fun K "ask_alike" "ask_alike" s_ask_alike f fd) (T:Txt K mg t) (F_kind_is_there:Fd P w K mg base "kind_is_there" 1 ["yard","t"] (sp_kind_is_there t)) (F_filled:Fd P w K mg base "filled" 1 ["numbers","length"] sp_filled) :
  FnOk P w K mg base CX0 2 f fd ["yard","t"] (sp_ask1 t .alike):=by
 refine F.ok sc_ask_alike (fun vs H Q E h=>?_) (fun cdv _ outer s H vs Q E hr h=>?_)
 ·obtain ⟨A,y,u,rfl,_⟩:=h;rfl
 ·obtain ⟨A,y,u,rfl,hy,g,kk⟩:=h
  have nd:=sc_ask_alike.nd
  have k1:AnsL H Q (if y.types.length≤u then Km415.only (-2) else ⟨((((List.range y.models.length).map fun m=>y.group u m).eraseDups.length:Nat):Int),Km415.fill Km415.MODELS ((List.range y.models.length).map fun m=>y.group u m)⟩):=kk
  obtain ⟨dy,hme⟩:=hy.me
  have hml:=hy.ml
  have hmn:=hy.mn
  have hm6:=g.ml
  refine ⟨_,(pss_cons (ps_if (pt_not (pt_val (pe_fn F_kind_is_there (hr.mono (by decide)) rfl (pa_cons (pv 0) (pa_cons (pv 1) pa_nil))))) (pss_one (ps_ret (pe_lst (pa_cons (pe_gi rfl T.g_NOT_THERE) pa_nil)))) pss_nil) (pss_cons (ps_setLc (i:=2) rfl nd rfl rfl (sw_true rfl rfl rfl rfl) (pi_listK K (pe_fldK K (pv 0) rfl)) (blkOk_by (own:=[("model",3)]) rfl) (fun _ _ _ _ _=>(pg_name (i:=3) nd rfl (by walk_at "lo"))) (fun _ _ _ _ _=>pts_nil) (fun _ _ _ _ _=>(pe_ix (ix_tupK K) (pe_fldK K (pv 3) rfl) (pv 1) (fun _ _=>rfl)))) (pss_one (ps_ret (pe_op op_cat (pe_lst (pa_cons (pe_callB cr_lenS (by rfl) T.b_len PySem.boot_len (pa_cons (pe_callTy (cr_setL (K:=K) rfl) (by rfl) T.b_set PyProof.Rows.boot_set (pa_cons (pv 2) pa_nil)) pa_nil)) pa_nil)) (pe_fn F_filled (hr.mono (by decide)) rfl (pa_cons (pv 2) (pa_cons (pe_gi rfl T.g_MOST_MODELS) pa_nil)))))))),?_⟩
  walk_at "rd"
  refine ⟨A,y,u,rfl,hy,_,rfl,?_⟩
  by_cases h1:u < y.types.length
  ·rw [decide_eq_true h1]
   rw [if_neg (by omega)] at k1
   have hu8:u < 8:=Nat.lt_of_lt_of_le h1 g.tl
   refine iteF ?_
   walk_at "rd"
   refine ⟨⟨_,SqL.of hml⟩,fun D hD=>?_⟩
   refine lc_list (K:=K) (a:=A.ml) (xs:=A.ms.map V.ref) (fun i H'=>Same H H'∧H' D=some (.lst (((List.range i).map fun m=>y.group u m).map iN))) ⟨same_new hD,upd_same⟩ (fun i H' _ ⟨s2,_⟩=>SqL.of (s2 _ _ hml)) ?_ ?_
   ·rintro i x H' hx ⟨s2,hD'⟩
    have hi:i < y.models.length:=by
     have:=(List.getElem?_eq_some_iff.mp hx).1
     omega
    obtain ⟨b,dm,gm,hb,hmo,hgm⟩:=(hy.same s2).model (List.getElem?_eq_getElem hi)
    have exb:x=V.ref b:=Option.some.inj (hx.symm.trans hb)
    subst exb
    have e1:=group_at g hu8 hi
    refine ⟨rfl,?_⟩
    walk_at "rd"
    refine ⟨_,hD',small ?_,same_upd s2 hD,?_⟩
    ·rw [List.length_map,List.length_map,List.length_range];omega
    ·rw [upd_same,List.range_succ,List.map_append,List.map_append];rfl
   ·rintro H1 ⟨s1,hD1⟩
    rw [hmn] at hD1
    generalize hgs:(List.range y.models.length).map (fun m=>y.group u m)=gs at k1 hD1
    have hgl:gs.length≤6:=by rw [←hgs,List.length_map,List.length_range];exact hm6
    walk_at "rd"
    refine ⟨D,gs.map fun (n:Nat)=>(n:Int),rfl,SqL.of (by rw [hD1,iN_int]),by rw [List.length_map];omega,fun l S hl=>?_⟩
    refine ⟨l,S,_,rfl,upd_same,?_⟩
    have hD2:(upd H1 l (.set S (nMet (gs.map fun (n:Nat)=>(n:Int))))) D=some (.lst (gs.map iN)):=by rw [upd_ne (ne_of_none hD1 hl)];exact hD1
    refine ⟨by show 1≤sizeLine;decide,fun q hq=>?_⟩
    have s2:Same H (upd H1 l (.set S (nMet (gs.map fun (n:Nat)=>(n:Int))))):=s1.trans (same_new hl)
    generalize upd H1 l (.set S (nMet (gs.map fun (n:Nat)=>(n:Int))))=H2 at hD2 hq s2
    have s3:=s2.trans (same_new (o:=.lst [V.int ((nMet (gs.map fun (n:Nat)=>(n:Int)):Nat):Int)]) hq)
    have hD3:(upd H2 q (.lst [V.int ((nMet (gs.map fun (n:Nat)=>(n:Int)):Nat):Int)])) D=some (.lst (gs.map iN)):=by rw [upd_ne (ne_of_none hD2 hq)];exact hD2
    walk_at "rd"
    refine ⟨D,gs,6,rfl,hD3,hgl,by decide,fun H4 p4 s4 hp4 hl4=>?_⟩
    refine ⟨q,p4,_,_,rfl,rfl,s4 _ _ upd_same,hl4,?_,fun r hr=>?_⟩
    ·rw [List.length_map,fill_eq hgl,List.length_append,List.length_replicate]
     have:=sizeLine_eq
     show 1+_≤_
     omega
    ·refine k1.fin (s3.trans s4) hr ?_
     rw [told_mk,nMet_eq,eraseDups_map_nat,List.length_map];rfl
  ·rw [decide_eq_false h1]
   rw [if_pos (by omega)] at k1
   exact iteT ⟨by show 1≤sizeLine;decide,fun p hp=>k1.fin (Same.refl H) hp rfl⟩
end
end Y58
namespace Y58
open PySem PySem.Spec PyProof.Rows L2
abbrev s_ask_least:Stmt:=top 69
theorem sc_ask_least:FnScope ["yard","m","wanted","refusal","lacks","way","pairs","t","k"] ["yard","m","wanted"] (defScope s_ask_least):=by walk_at "sc"
section
variable {P:Program} {w:World} {K:PySem.W.Frag} {mg:Str→Option Value} {base:Heap} {t:Adr} {f:Addr} {fd:FuncData}
def AnsT (Pt:Addr) (H:Hp) (Q:VK) (a:Km415.Ans):Prop:=∀H' p,Keep Pt H H'→TabL H' Pt→H p=none→H' p=some (.lst (told a))→Q (.ref p) H'
theorem AnsT.small {Pt:Addr} {H:Hp} {Q:VK} {a:Km415.Ans} (k:AnsT Pt H Q a) (hT:TabL H Pt):AnsL H Q a:=fun H' p s hp hl=>k H' p (Keep.same s) (hT.same s) hp hl
def pairsOf (l:List (Nat×Nat)):List Nat:=l.flatMap fun p=>[p.1,p.2+1]
theorem pairs_len (l:List (Nat×Nat)):(pairsOf l).length=2 * l.length:=by
 unfold pairsOf
 induction l with
 | nil=>rfl
 | cons a l ih=>simp only [List.flatMap_cons,List.length_append,ih,List.length_cons,List.length_nil];omega
theorem gatherA_ref {y:Km415.Yard} {m b:Nat} (h:soughtR y m b < 0):askA y (.gather m b)=Km415.only (soughtR y m b):=by
 show (if y.models.length≤m then Km415.only (-2) else if b=0∨2^y.types.length≤b∨Km415.WANTED < (Km415.kinds Km415.TYPES b).length then Km415.only (-22) else _)=_
 unfold soughtR at h ⊢
 by_cases hm:y.models.length≤m
 ·rw [if_pos hm,if_pos hm]
 ·rw [if_neg hm] at h
  rw [if_neg hm,if_neg hm]
  by_cases hb:b=0∨2^y.types.length≤b∨Km415.WANTED < (Km415.kinds Km415.TYPES b).length
  ·rw [if_pos hb,if_pos hb]
  ·rw [if_neg hb] at h;exact absurd h (by decide)
theorem gatherA_on {y:Km415.Yard} (g:Good y) {m b:Nat} (hm:m < y.models.length) (hw:wantedOk y b=true):askA y (.gather m b)=match y.gather m b with
  | none=>Km415.only (-33)
  | some (v,w)=>⟨((v:Nat):Int),Km415.fill 6 (pairsOf w)⟩:=by
 show (if y.models.length≤m then Km415.only (-2) else if b=0∨2^y.types.length≤b∨Km415.WANTED < (Km415.kinds Km415.TYPES b).length then Km415.only (-22) else _)=_
 rw [if_neg (by omega),if_neg ((wanted_iff g b).mp hw)];rfl
def sp_ask_least (t:Adr) (Pt:Addr):Sp:=fun vs H Q _=>∃A y m b,vs=[.ref A.a,iN m,iN b]∧YardAt t H A y∧Good y∧TabL H Pt∧AnsT Pt H Q (askA y (.gather m b))
theorem ok_ask_least {Pt:Addr} (F:Fun K "ask_least" "ask_least" s_ask_least f fd) (T:Txt K mg t) (F_why_not_sought:Fd P w K mg base "why_not_sought" 2 ["yard","m","wanted"] (sp_why_not_sought t))
  (F_lacking:Fd P w K mg base "lacking" 3 ["yard","model","wanted"] (sp_lacking t)) (F_least_way:Fd P w K mg base "least_way" 6 ["yard","model","lacks"] (sp_least_way t Pt)) (F_way_takes:Fd P w K mg base "way_takes" 3 ["yard","lacks","way","known"] (sp_way_takes t))
  (F_filled:Fd P w K mg base "filled" 1 ["numbers","length"] sp_filled):FnOk P w K mg base CX0 7 f fd ["yard","m","wanted"] (sp_ask_least t Pt):=by
 refine F.ok sc_ask_least (fun vs H Q E h=>?_) (fun cdv _ outer s H vs Q E hr h=>?_)
 ·obtain ⟨A,y,m,b,rfl,_⟩:=h;rfl
 ·obtain ⟨A,y,m,b,rfl,hy,g,hT,k⟩:=h
  have nd:=sc_ask_least.nd
  refine ⟨_,(pss_cons (ps_set (i:=3) nd rfl (by walk_at "lo") (pe_fn F_why_not_sought (hr.mono (by decide)) rfl (pa_cons (pv 0) (pa_cons (pv 1) (pa_cons (pv 2) pa_nil))))) (pss_cons (ps_if (pt_cmpR op_lt (pv 3) pe_int (nomark _)) (pss_one (ps_ret (pe_lst (pa_cons (pv 3) pa_nil)))) pss_nil) (pss_cons (ps_set (i:=4) nd rfl (by walk_at "lo") (pe_fn F_lacking (hr.mono (by decide)) rfl (pa_cons (pv 0) (pa_cons (pv 1) (pa_cons (pv 2) pa_nil))))) (pss_cons (ps_set (i:=5) nd rfl (by walk_at "lo") (pe_fn F_least_way (hr.mono (by decide)) rfl (pa_cons (pv 0) (pa_cons (pv 1) (pa_cons (pv 4) pa_nil))))) (pss_cons (ps_if (pt_cmp (pc_isN (pv 5))) (pss_one (ps_ret (pe_lst (pa_cons (pe_gi rfl T.g_NO_WAY) pa_nil)))) pss_nil) (pss_cons (ps_set (i:=6) nd rfl (by walk_at "lo") (pe_lst pa_nil)) (pss_cons (ps_for PassesOwn.never rfl (pi_zipK K rfl T.b_zip (pa_cons (pv 4) (pa_cons (pv 5) pa_nil))) (pg_tupK K (n:=2) rfl (pgs_cons (pg_name (i:=7) nd rfl (by walk_at "lo")) (pgs_cons (pg_name (i:=8) nd rfl (by walk_at "lo")) pgs_nil))) (pss_one (ps_expr (pe_bmK K PySem.F.plainAttrs_list PySem.F.slot_list_extend PySem.F.type_list_extend mt_extend (pv 6) (pa_cons (pe_lst (pa_cons (pv 7) (pa_cons (pe_op op_add (pv 8) pe_int) pa_nil))) pa_nil))))) (pss_one (ps_ret (pe_op op_cat (pe_lst (pa_cons (pe_fn F_way_takes (hr.mono (by decide)) rfl (pa_cons (pv 0) (pa_cons (pv 4) (pa_cons (pv 5) (pa_cons pe_dnewT pa_nil))))) pa_nil)) (pe_fn F_filled (hr.mono (by decide)) rfl (pa_cons (pv 6) (pa_cons (pe_op op_mul pe_int (pe_gi rfl T.g_MOST_GATHERED)) pa_nil))))))))))))),?_⟩
  walk_at "rd"
  refine ⟨A,y,m,b,rfl,hy,g,fun H1 s1=>?_⟩
  walk_at "rd"
  by_cases hso:soughtR y m b < 0
  ·rw [decide_eq_true hso]
   rw [gatherA_ref hso] at k
   refine iteT ?_
   walk_at "rd"
   exact ⟨by show 1≤sizeLine;decide,fun p hp=>(k.small hT).fin s1 hp rfl⟩
  ·rw [decide_eq_false hso]
   obtain ⟨hm,hw⟩:=sought_no g hso
   rw [gatherA_on g hm hw] at k
   refine iteF ?_
   walk_at "rd"
   have hw2:=hw
   unfold wantedOk at hw2
   simp only [Bool.and_eq_true,Bool.not_eq_true',decide_eq_false_iff_not,decide_eq_true_iff] at hw2
   obtain ⟨hb',_,hk3⟩:=hw2
   have hb:b < 2^y.types.length:=Nat.lt_of_not_le hb'
   refine ⟨A,y,m,b,rfl,hy.same s1,g,hm,hb,fun H2 p s2 hp hl=>?_⟩
   have s12:=s1.trans s2
   have hy2:=hy.same s12
   have hT2:=hT.same s12
   obtain ⟨psT,hPt2⟩:=hT2.there
   have hLmem:∀u∈y.lacking m b,u < y.types.length:=fun u hu=>lt_of_testBit hb (mem_kinds.mp (List.mem_filter.mp hu).1).2
   have hL3:(y.lacking m b).length≤3:=Nat.le_trans (List.length_filter_le _ _) hk3
   have htl:=g.tl
   walk_at "rd"
   refine ⟨A,y,m,p,y.lacking m b,rfl,hy2,g,hm,hl,hL3,hLmem,hT2,fun hnil H3 kp hT3=>?_,fun i wy bW H3 hwy hfl kp hT3 hbW=>?_⟩
   ·have hg:y.gather m b=none:=gather_none y m b (by rw [ways_eq];show (waysOf y m (y.lacking m b)).map _=[];rw [hnil];rfl)
    rw [hg] at k
    have kp3:Keep Pt H H3:=(Keep.same s12).trans kp
    walk_at "rd"
    refine ⟨by show 1≤sizeLine;decide,fun q hq=>?_⟩
    obtain ⟨psT3,hPt3⟩:=hT3.there
    obtain ⟨psT0,hPt0⟩:=hT.there
    have hqP:q≠Pt:=fun e=>by rw [e,hPt3] at hq;cases hq
    exact k _ q (kp3.trans (Keep.same (same_new hq))) (hT3.same (same_new hq)) (kp3.free hq hqP) upd_same
   ·have hg:=first_gather hwy hfl
    rw [hg] at k
    have hwm:=List.mem_of_getElem? hwy
    have hwl:=prod_length hwm
    have hy3:=hy2.keepT hPt2 kp
    have kp3:Keep Pt H H3:=(Keep.same s12).trans kp
    have hl3:H3 p=some (.lst ((y.lacking m b).map iN)):=kp _ _ hl (ne_tb hl hPt2 (by intro k z;cases z))
    generalize hLe:y.lacking m b=L at *
    have hcs:∀kk∈wy,kk < y.cars.length:=fun kk hk=>by
     obtain ⟨i,hi,e⟩:=List.getElem_of_mem hk
     have hz:(L[i]'(by omega),kk)∈L.zip wy:=by
      have:(L.zip wy)[i]?=some (L[i]'(by omega),kk):=by
       rw [List.getElem?_zip_eq_some]
       exact ⟨List.getElem?_eq_getElem _,by rw [List.getElem?_eq_getElem hi,e]⟩
      exact List.mem_of_getElem? this
     obtain ⟨c,c1,_⟩:=from_mem (prod_mem hwm _ hz)
     exact (List.getElem?_eq_some_iff.mp c1).1
    have hzl:(L.zip wy).length=L.length:=by rw [List.length_zip];omega
    have hc8:=g.cl
    walk_at "rd"
    refine ⟨Nat.zero_le _,fun D hD=>?_⟩
    have s0:Same H3 (upd H3 D (.lst [])):=same_new hD
    walk_at "rd"
    refine ⟨p,bW,_,_,rfl,SqL.of (s0 _ _ hl3),SqL.of (s0 _ _ hbW),?_⟩
    refine for_it (n:=L.length) (fun i σ H'=>Same H3 H'∧H' D=some (.lst ((pairsOf ((L.zip wy).take i)).map iN))∧∃v3 v4,σ=[some (.ref A.a),some (iN m),some (iN b),some (.int (soughtR y m b)),some (.ref p),some (.ref bW),some (.ref D),v3,v4]) ⟨s0,upd_same,none,none,rfl⟩ ?_ ?_ ?_ ?_
    ·rintro i σ H' hi ⟨s4,_⟩
     exact ⟨_,_,_,_,SqL.of (s4 _ _ hl3),SqL.of (s4 _ _ hbW),List.getElem?_eq_getElem (by rw [List.length_map];exact hi),List.getElem?_eq_getElem (by rw [List.length_map];omega)⟩
    ·rintro σ H' ⟨s4,_⟩
     exact ⟨_,_,SqL.of (s4 _ _ hl3),SqL.of (s4 _ _ hbW),.inl (by rw [List.length_map];exact Nat.le_refl _)⟩
    ·rintro i x σ H' H5 hi ⟨s4,hD4,v3,v4,rfl⟩ ⟨T',z1,z2,rfl,hT',rfl,hz1,hz2⟩
     obtain ⟨u,hu,rfl⟩:=map_get (hz1 _ (SqL.of (s4 _ _ hl3)))
     obtain ⟨c,hc,rfl⟩:=map_get (hz2 _ (SqL.of (s4 _ _ hbW)))
     have hz:(L.zip wy)[i]?=some (u,c):=by rw [List.getElem?_zip_eq_some];exact ⟨hu,hc⟩
     have hD5:(upd H' T' (.tup [iN u,iN c])) D=some (.lst ((pairsOf ((L.zip wy).take i)).map iN)):=by rw [upd_ne (ne_of_none hD4 hT')];exact hD4
     refine ⟨T',_,rfl,SqT.of upd_same,rfl,_,_,rfl,_,_,rfl,rfl,?_⟩
     walk_at "rd"
     refine ⟨.inl ⟨rfl,_,SqL.of hD5⟩,?_⟩
     walk_at "rd"
     refine ⟨by show 2≤sizeLine;decide,fun B hB=>?_⟩
     have hD6:(upd (upd H' T' (.tup [iN u,iN c])) B (.lst [iN u,.int ((c:Int)+1)])) D=some (.lst ((pairsOf ((L.zip wy).take i)).map iN)):=by rw [upd_ne (ne_of_none hD5 hB)];exact hD5
     have s6:Same H3 (upd (upd H' T' (.tup [iN u,iN c])) B (.lst [iN u,.int ((c:Int)+1)])):=(s4.trans (same_new hT')).trans (same_new hB)
     refine ⟨D,B,_,_,rfl,rfl,hD6,upd_same,?_,same_upd s6 hD,?_,some (iN u),some (iN c),rfl⟩
     ·rw [List.length_map,pairs_len,List.length_take]
      have:=sizeLine_eq
      show _+2≤_
      omega
     ·rw [upd_same,take_snoc hz]
      have e:pairsOf ((L.zip wy).take i++[(u,c)])=pairsOf ((L.zip wy).take i)++[u,c+1]:=by unfold pairsOf;rw [List.flatMap_append];rfl
      rw [e,List.map_append];rfl
    ·rintro σ H4 ⟨s4,hD4,v3,v4,rfl⟩
     have e:(L.zip wy).take L.length=L.zip wy:=by
      apply List.take_of_length_le
      omega
     rw [e] at hD4
     have hl4:=s4 _ _ hl3
     have hW4:=s4 _ _ hbW
     have hy4:=hy3.same s4
     have hT4:=TabL.same hT3 s4
     walk_at "rd"
     intro kn hkn
     refine ⟨A,y,p,L,bW,wy,kn,[],rfl,hy4.same (same_new hkn),g,same_new hkn _ _ hl4,same_new hkn _ _ hW4,hwl,hL3,hLmem,hcs,upd_same,by show 0≤10000;decide,fun H6 l' kp6 hk6 hl6=>?_⟩
     have hD6:H6 D=some (.lst ((pairsOf (L.zip wy)).map iN)):=kp6 _ _ (same_new hkn _ _ hD4) (ne_of_none hD4 hkn)
     have hT6:TabL H6 Pt:=(hT4.same (same_new hkn)).keep upd_same kp6
     have kp46:∀b o,H4 b=some o→H6 b=some o:=fun b o q=>kp6 _ _ (same_new hkn _ _ q) (ne_of_none q hkn)
     have kpA:Keep Pt H H6:=fun b o q n=>kp46 _ _ (s4 _ _ (kp3 b o q n))
     refine ⟨by show 1≤sizeLine;decide,fun q hq=>?_⟩
     have hD7:(upd H6 q (.lst [iN (y.cost (L.zip wy))])) D=some (.lst ((pairsOf (L.zip wy)).map iN)):=by rw [upd_ne (ne_of_none hD6 hq)];exact hD6
     walk_at "rd"
     refine ⟨.inl ⟨by decide,by decide⟩,?_⟩
     refine ⟨D,pairsOf (L.zip wy),6,rfl,hD7,by rw [pairs_len];omega,by decide,fun H8 p8 s8 hp8 hl8=>?_⟩
     have s68:=(same_new (o:=.lst [iN (y.cost (L.zip wy))]) hq).trans s8
     refine ⟨q,p8,_,_,rfl,rfl,s8 _ _ upd_same,hl8,?_,fun r hr=>?_⟩
     ·rw [List.length_map,fill_eq (by rw [pairs_len];omega),List.length_append,List.length_replicate]
      have:=sizeLine_eq
      have:=pairs_len (L.zip wy)
      show 1+_≤_
      omega
     ·obtain ⟨psT6,hPt6⟩:=hT6.there
      have hr6:H6 r=none:=s68.free hr
      have hrP:r≠Pt:=fun e=>by rw [e,hPt6] at hr6;cases hr6
      refine k _ r (kpA.trans (Keep.same (s68.trans (same_new hr)))) (hT6.same (s68.trans (same_new hr))) (kpA.free hr6 hrP) ?_
      rw [upd_same]
      show _=some (HO.lst (told ⟨((y.cost (L.zip wy):Nat):Int),Km415.fill 6 (pairsOf (L.zip wy))⟩))
      rw [told_mk];rfl
end
end Y58
namespace Y58
open PySem PySem.Spec PyProof.Rows L2
structure RA where
 a:Addr
 el:Addr
 ll:Addr
 now:YA
 past:List YA
 fut:List YA
def recF (n e l:Addr):List (Str×V):=[("now",.ref n),("earlier",.ref e),("later",.ref l)]
def lists (A:YA):List Addr:=[A.kl,A.ml,A.cl,A.sl]
def yardsL (l:List YA):List V:=l.reverse.map fun A=>V.ref A.a
theorem yardsL_cons (A:YA) (l:List YA):yardsL (A::l)=yardsL l++[.ref A.a]:=by
 unfold yardsL
 rw [List.reverse_cons,List.map_append];rfl
theorem yardsL_len (l:List YA):(yardsL l).length=l.length:=by
 unfold yardsL
 rw [List.length_map,List.length_reverse]
def recOwn (R:RA):List Addr:=R.a::R.el::R.ll::(R.now::(R.past++R.fut)).flatMap lists
structure RecAt (t:Adr) (H:Hp) (R:RA) (d:Km415.Desk):Prop where
 me:∃dx,H R.a=some (.ins t.cRecord dx (recF R.now.a R.el R.ll))
 el:H R.el=some (.lst (yardsL R.past))
 ll:H R.ll=some (.lst (yardsL R.fut))
 now:YardAt t H R.now d.now
 past:Paired (YardAt t H) R.past d.past
 fut:Paired (YardAt t H) R.fut d.future
 ne:R.el≠R.ll
 ap:∀A∈R.now::(R.past++R.fut),R.el ∉ lists A∧R.ll ∉ lists A
section
variable {t:Adr} {H H':Hp} {A:YA} {y:Km415.Yard} {R R':RA} {d d':Km415.Desk}
theorem own_lists {b:Addr} (n:b ∉ recOwn R):∀A∈R.now::(R.past++R.fut),b ∉ lists A:=fun A hA q=>n (by
 unfold recOwn
 exact List.mem_cons_of_mem _ (List.mem_cons_of_mem _ (List.mem_cons_of_mem _ (List.mem_flatMap.mpr ⟨A,hA,q⟩))))
theorem not_own {b:Addr} (h1:b≠R.a) (h2:b≠R.el) (h3:b≠R.ll) (h:∀A∈R.now::(R.past++R.fut),b ∉ lists A):b ∉ recOwn R:=fun q=>by
 unfold recOwn at q
 rcases List.mem_cons.mp q with q | q
 ·exact h1 q
 rcases List.mem_cons.mp q with q | q
 ·exact h2 q
 rcases List.mem_cons.mp q with q | q
 ·exact h3 q
 obtain ⟨A,hA,q⟩:=List.mem_flatMap.mp q
 exact h A hA q
theorem own3 {b:Addr} (n:b ∉ recOwn R):b≠R.a∧b≠R.el∧b≠R.ll:=by
 unfold recOwn at n
 simp only [List.mem_cons,not_or] at n
 exact ⟨n.1,n.2.1,n.2.2.1⟩
theorem YardAt.keepL {b:Addr} {xs:List V} (h:YardAt t H A y) (hb:H b=some (.lst xs)) (n:b ∉ lists A) (kp:Keep b H H'):YardAt t H' A y:=by
 obtain ⟨dy,hy⟩:=h.me
 simp only [lists,List.mem_cons,List.not_mem_nil,or_false,not_or] at n
 refine ⟨⟨dy,kp _ _ hy (ne_il hy hb)⟩,kp _ _ h.kl (fun e=>n.1 e.symm),kp _ _ h.ml (fun e=>n.2.1 e.symm),kp _ _ h.cl (fun e=>n.2.2.1 e.symm),kp _ _ h.sl (fun e=>n.2.2.2 e.symm),
  kinds_keep kp (fun a d x q=>ne_il q hb) h.ks,models_keep kp (fun a d x g q=>ne_il q hb) (fun a xs q=>ne_tl q hb) h.ms,cars_keep kp h.cs (fun a ha=>?_),parts_keep kp (fun a xs q=>ne_tl q hb) h.st,h.nd⟩
 obtain ⟨i,hi,e⟩:=List.getElem_of_mem ha
 obtain ⟨c,_,⟨d,hd⟩⟩:=paired_get' h.cs (show A.cs[i]?=some a by rw [List.getElem?_eq_getElem hi,e])
 exact ne_il hd hb
theorem YardAt.keepI {b C d:Addr} {fs:List (Str×V)} (h:YardAt t H A y) (hb:H b=some (.ins C d fs)) (n:fs.length≠12∧fs.length≠5∧fs.length≠4) (nm:∀x g,fs≠modelF x g) (kp:Keep b H H'):YardAt t H' A y:=by
 obtain ⟨dy,hy⟩:=h.me
 have ni:∀{a C' d':Addr} {fs':List (Str×V)},H a=some (.ins C' d' fs')→fs'≠fs→a≠b:=fun q z e=>by
  subst e
  rw [q] at hb
  cases hb
  exact z rfl
 have nl:∀{fs':List (Str×V)} {k:Nat},fs'.length=k→fs.length≠k→fs'≠fs:=fun e1 e2 e=>e2 (by rw [←e];exact e1)
 refine ⟨⟨dy,kp _ _ hy (ni hy (nl rfl n.1))⟩,kp _ _ h.kl (ne_li h.kl hb),kp _ _ h.ml (ne_li h.ml hb),kp _ _ h.cl (ne_li h.cl hb),kp _ _ h.sl (ne_li h.sl hb),
  kinds_keep kp (fun a d x q=>ni q (nl rfl n.2.2)) h.ks,models_keep kp (fun a d x g q=>ni q (fun e=>nm x g e.symm)) (fun a xs q=>ne_ti q hb) h.ms,cars_keep kp h.cs (fun a ha=>?_),parts_keep kp (fun a xs q=>ne_ti q hb) h.st,h.nd⟩
 obtain ⟨i,hi,e⟩:=List.getElem_of_mem ha
 obtain ⟨c,_,⟨d,hd⟩⟩:=paired_get' h.cs (show A.cs[i]?=some a by rw [List.getElem?_eq_getElem hi,e])
 exact ni hd (nl rfl n.2.1)
theorem rec_not_model (n e l:Addr):∀x g,recF n e l≠modelF x g:=fun x g q=>by
 have h:=congrArg (fun l=>l.map Prod.fst) q
 revert h
 show ¬ ([("now":Str),"earlier","later"]=[("kg":Str),"litres","groups"])
 decide +kernel
theorem YardAt.keepRec {b C dd n e l:Addr} (h:YardAt t H A y) (hb:H b=some (.ins C dd (recF n e l))) (kp:Keep b H H'):YardAt t H' A y :=
 h.keepI hb ⟨by show 3≠12;decide,by show 3≠5;decide,by show 3≠4;decide⟩ (rec_not_model n e l) kp
theorem RecAt.same (s:Same H H') (h:RecAt t H R d):RecAt t H' R d :=
 ⟨h.me.imp fun _ e=>s _ _ e,s _ _ h.el,s _ _ h.ll,h.now.same s,Paired.mapP h.past fun _ _ q=>q.same s,Paired.mapP h.fut fun _ _ q=>q.same s,h.ne,h.ap⟩
theorem RecAt.keepT {Pt:Addr} {ps:Array Value} (h:RecAt t H R d) (hb:H Pt=some (.tbl ps)) (kp:Keep Pt H H'):RecAt t H' R d:=by
 obtain ⟨dx,hx⟩:=h.me
 exact ⟨⟨dx,kp _ _ hx (ne_tb hx hb (by intro k z;cases z))⟩,kp _ _ h.el (ne_tb h.el hb (by intro k z;cases z)),kp _ _ h.ll (ne_tb h.ll hb (by intro k z;cases z)),h.now.keepT hb kp,Paired.mapP h.past fun _ _ q=>q.keepT hb kp,Paired.mapP h.fut fun _ _ q=>q.keepT hb kp,h.ne,h.ap⟩
theorem paired_mem {α β:Type} {S S':α→β→Prop}:∀{l:List α} {m:List β},Paired S l m→(∀x∈l,∀y,S x y→S' x y)→Paired S' l m
 | _,_,.nil,_=>.nil
 | _,_,.cons r q,f=>.cons (f _ List.mem_cons_self _ r) (paired_mem q fun x hx y=>f x (List.mem_cons_of_mem _ hx) y)
theorem RecAt.keepL {b:Addr} {xs:List V} (h:RecAt t H R d) (hb:H b=some (.lst xs)) (n:b ∉ recOwn R) (kp:Keep b H H'):RecAt t H' R d:=by
 obtain ⟨dx,hx⟩:=h.me
 obtain ⟨n1,n2,n3⟩:=own3 n
 have nl:=own_lists n
 exact ⟨⟨dx,kp _ _ hx (ne_il hx hb)⟩,kp _ _ h.el (fun e=>n2 e.symm),kp _ _ h.ll (fun e=>n3 e.symm),h.now.keepL hb (nl _ (by simp)) kp,paired_mem h.past fun A hA _ q=>q.keepL hb (nl _ (by simp [hA])) kp,paired_mem h.fut fun A hA _ q=>q.keepL hb (nl _ (by simp [hA])) kp,h.ne,h.ap⟩
def FrS (R R':RA) (H H':Hp):Prop:=∀b o,H b=some o→b ∉ recOwn R→b ∉ recOwn R'∧H' b=some o
theorem RecAt.tab_out {Pt:Addr} {ps:Array Value} (h:RecAt t H R d) (hb:H Pt=some (.tbl ps)):Pt ∉ recOwn R:=by
 obtain ⟨dx,hx⟩:=h.me
 have nl:∀{a:Addr} {xs:List V},H a=some (.lst xs)→Pt≠a:=fun q e=>by rw [e,q] at hb;cases hb
 have ny:∀{A:YA} {y:Km415.Yard},YardAt t H A y→Pt ∉ lists A:=fun h q=>by
  simp only [lists,List.mem_cons,List.not_mem_nil,or_false] at q
  rcases q with q | q | q | q
  ·exact nl h.kl q
  ·exact nl h.ml q
  ·exact nl h.cl q
  ·exact nl h.sl q
 refine not_own (fun e=>by rw [e,hx] at hb;cases hb) (nl h.el) (nl h.ll) fun A hA=>?_
 rcases List.mem_cons.mp hA with rfl | hA
 ·exact ny h.now
 rcases List.mem_append.mp hA with hA | hA
 ·obtain ⟨i,hi,e⟩:=List.getElem_of_mem hA
  obtain ⟨z,_,q⟩:=paired_get' h.past (show R.past[i]?=some A by rw [List.getElem?_eq_getElem hi,e])
  exact ny q
 ·obtain ⟨i,hi,e⟩:=List.getElem_of_mem hA
  obtain ⟨z,_,q⟩:=paired_get' h.fut (show R.fut[i]?=some A by rw [List.getElem?_eq_getElem hi,e])
  exact ny q
theorem RecAt.there (h:RecAt t H R d) {b:Addr} (hb:b∈recOwn R):∃o,H b=some o∧∀φ,o≠.ext φ:=by
 obtain ⟨dx,hx⟩:=h.me
 have ny:∀{A:YA} {y:Km415.Yard},YardAt t H A y→b∈lists A→∃o,H b=some o∧∀φ,o≠.ext φ:=fun h q=>by
  simp only [lists,List.mem_cons,List.not_mem_nil,or_false] at q
  rcases q with rfl | rfl | rfl | rfl
  ·exact ⟨_,h.kl,by intro φ z;cases z⟩
  ·exact ⟨_,h.ml,by intro φ z;cases z⟩
  ·exact ⟨_,h.cl,by intro φ z;cases z⟩
  ·exact ⟨_,h.sl,by intro φ z;cases z⟩
 unfold recOwn at hb
 rcases List.mem_cons.mp hb with rfl | hb
 ·exact ⟨_,hx,by intro φ z;cases z⟩
 rcases List.mem_cons.mp hb with rfl | hb
 ·exact ⟨_,h.el,by intro φ z;cases z⟩
 rcases List.mem_cons.mp hb with rfl | hb
 ·exact ⟨_,h.ll,by intro φ z;cases z⟩
 obtain ⟨A,hA,q'⟩:=List.mem_flatMap.mp hb
 rcases List.mem_cons.mp hA with rfl | hA
 ·exact ny h.now q'
 rcases List.mem_append.mp hA with hA | hA
 ·obtain ⟨i,hi,e⟩:=List.getElem_of_mem hA
  obtain ⟨z,_,q⟩:=paired_get' h.past (show R.past[i]?=some A by rw [List.getElem?_eq_getElem hi,e])
  exact ny q q'
 ·obtain ⟨i,hi,e⟩:=List.getElem_of_mem hA
  obtain ⟨z,_,q⟩:=paired_get' h.fut (show R.fut[i]?=some A by rw [List.getElem?_eq_getElem hi,e])
  exact ny q q'
theorem RecAt.tabL {Pt:Addr} (h:RecAt t H R d) (hT:TabL H Pt) (fr:FrS R R' H H'):TabL H' Pt:=by
 rcases hT with q | ⟨c',q1,q2⟩
 ·exact .inl (fr _ _ q (h.tab_out q)).2
 ·refine .inr ⟨c',(fr _ _ q1 (h.tab_out q1)).2,(fr _ _ q2 fun z=>?_).2⟩
  obtain ⟨o,ho,n⟩:=h.there z
  rw [q2] at ho
  cases ho
  exact n _ rfl
end
end Y58
namespace Y58
open PySem PySem.Spec PyProof.Rows L2
abbrev s_Record_init:Stmt:=inClass (top 133) 0
theorem sc_Record_init:FnScope ["self"] ["self"] (defScope s_Record_init):=by walk_at "sc"
abbrev s_begin_anew:Stmt:=top 134
theorem sc_begin_anew:FnScope ["record"] ["record"] (defScope s_begin_anew):=by walk_at "sc"
abbrev s_keep_change:Stmt:=top 135
theorem sc_keep_change:FnScope ["record","draft"] ["record","draft"] (defScope s_keep_change):=by walk_at "sc"
abbrev s_take_back:Stmt:=top 136
theorem sc_take_back:FnScope ["record"] ["record"] (defScope s_take_back):=by walk_at "sc"
abbrev s_do_again:Stmt:=top 137
theorem sc_do_again:FnScope ["record"] ["record"] (defScope s_do_again):=by walk_at "sc"
section
variable {P:Program} {w:World} {K:PySem.W.Frag} {mg:Str→Option Value} {base:Heap} {t:Adr} {f:Addr} {fd:FuncData}
theorem made_free {H:Hp} {x dx b:Addr} {o1 o2:HO} (h:(upd (upd H dx o1) x o2) b=none):H b=none:=by
 by_cases e:b=x
 ·rw [e,upd_same] at h;cases h
 ·rw [upd_ne e] at h
  by_cases e2:b=dx
  ·rw [e2,upd_same] at h;cases h
  ·rw [upd_ne e2] at h;exact h
theorem YardAt.fresh_out {H:Hp} {A:YA} {y:Km415.Yard} (h:YardAt t H A y) {b:Addr} (hb:H b=none):b ∉ lists A:=fun q=>by
 simp only [lists,List.mem_cons,List.not_mem_nil,or_false] at q
 rcases q with q | q | q | q
 ·rw [q,h.kl] at hb;cases hb
 ·rw [q,h.ml] at hb;cases hb
 ·rw [q,h.cl] at hb;cases hb
 ·rw [q,h.sl] at hb;cases hb
theorem lists_free {H:Hp} {A:YA} (h1:H A.kl=none) (h2:H A.ml=none) (h3:H A.cl=none) (h4:H A.sl=none) {b:Addr} (hb:b∈lists A):H b=none:=by
 simp only [lists,List.mem_cons,List.not_mem_nil,or_false] at hb
 rcases hb with rfl | rfl | rfl | rfl <;> assumption
def sp_Record (t:Adr):Sp:=fun vs H Q _=>∃(x dx:Addr),vs=[.ref x]∧H x=some (.ins t.cRecord dx [])∧∀H' R,R.a=x→Keep x H H'→RecAt t H' R Km415.fresh→(∀b∈recOwn R,b≠x→H b=none)→Q .non H'
theorem ok_Record (F:Fun K "__init__" "Record.__init__" s_Record_init f fd) (T:Txt K mg t) (M_Yard:Md P w K mg base "Yard" t.cYard 1 ["self"] (sp_Yard t)):FnOk P w K mg base CX0 3 f fd ["self"] (sp_Record t):=by
 refine F.ok sc_Record_init (fun vs H Q E h=>?_) (fun cdv _ outer s H vs Q E hr h=>?_)
 ·obtain ⟨x,dx,rfl,_⟩:=h;rfl
 ·obtain ⟨x,dx,rfl,hx,kk⟩:=h
  have nd:=sc_Record_init.nd
  refine ⟨_,(pss_cons (ps_fldK K (pv 0) (pe_mk0 M_Yard (hr.mono (by decide)) rfl) rfl) (pss_cons (ps_fldK K (pv 0) (pe_lst pa_nil) rfl) (pss_one (ps_fldK K (pv 0) (pe_lst pa_nil) rfl)))),?_⟩
  intro y0 dy0 hy0 hdy0 hne
  refine ⟨y0,dy0,rfl,upd_same,fun H1 A1 ea kp1 fkl fml fcl fsl ap hy1 ecs=>⟨rfl,?_⟩⟩
  have s1:=made_same hy0 hdy0 kp1
  have g1:∀b∈lists A1,H b=none:=fun b hb=>lists_free (made_free fkl) (made_free fml) (made_free fcl) (made_free fsl) hb
  subst ea
  have hx1:=s1 _ _ hx
  walk_at "rd"
  refine rd_set hx1 T.cl_Record T.n_Record_now (by show 0 < 1000;decide) rfl ?_
  refine fld_on ?_
  intro H2 kp2 hx2
  have hy2:YardAt t H2 A1 Km415.opened:=hy1.keepI hx1 ⟨by show 0≠12;decide,by show 0≠5;decide,by show 0≠4;decide⟩ (fun x g q=>by cases q) kp2
  walk_at "rd"
  refine ⟨by decide,fun e1 he1=>?_⟩
  have hx2':(upd H2 e1 (.lst [])) x=some (.ins t.cRecord dx [("now",.ref A1.a)]):=by rw [upd_ne (ne_of_none hx2 he1)];exact hx2
  walk_at "rd"
  refine rd_set hx2' T.cl_Record T.n_Record_earlier (by show 1 < 1000;decide) rfl ?_
  have st3:=new_step (f:="earlier") hx2 he1 (l:=[]) (fs':=[("now",.ref A1.a),("earlier",.ref e1)])
  refine st3.on ?_
  clear st3 hx2'
  intro H3 kp3 hx3 hl3 hne3
  have hy3:YardAt t H3 A1 Km415.opened:=hy2.keepI hx2 ⟨by show 1≠12;decide,by show 1≠5;decide,by show 1≠4;decide⟩ (fun x g q=>by cases q) kp3
  walk_at "rd"
  refine ⟨by decide,fun l1 hl1=>?_⟩
  have hx3':(upd H3 l1 (.lst [])) x=some (.ins t.cRecord dx [("now",.ref A1.a),("earlier",.ref e1)]):=by rw [upd_ne (ne_of_none hx3 hl1)];exact hx3
  walk_at "rd"
  refine rd_set hx3' T.cl_Record T.n_Record_later (by show 2 < 1000;decide) rfl ?_
  have st4:=new_step (f:="later") hx3 hl1 (l:=[]) (fs':=recF A1.a e1 l1)
  refine st4.on ?_
  clear st4 hx3'
  intro H4 kp4 hx4 hl4 hne4
  have hy4:YardAt t H4 A1 Km415.opened:=hy3.keepI hx3 ⟨by show 2≠12;decide,by show 2≠5;decide,by show 2≠4;decide⟩ (fun x g q=>by cases q) kp4
  have kpA:Keep x H H4:=(((Keep.same s1).trans kp2).trans kp3).trans kp4
  have o1:e1 ∉ lists A1:=hy2.fresh_out he1
  have o2:l1 ∉ lists A1:=hy3.fresh_out hl1
  have hel:e1≠l1:=ne_of_none hl3 hl1
  refine kk H4 { a:=x,el:=e1,ll:=l1,now:=A1,past:=[],fut:=[] } rfl kpA ⟨⟨dx,hx4⟩,kp4 _ _ hl3 hne3,hl4,hy4,.nil,.nil,hel,fun A hA=>?_⟩ fun b hb hbx=>?_
  ·have:A=A1:=by simpa using hA
   subst this
   exact ⟨o1,o2⟩
  ·unfold recOwn at hb
   simp only [List.append_nil,List.flatMap_cons,List.flatMap_nil] at hb
   rcases List.mem_cons.mp hb with rfl | hb
   ·exact absurd rfl hbx
   rcases List.mem_cons.mp hb with rfl | hb
   ·exact ((Keep.same s1).trans kp2).free he1 hne3
   rcases List.mem_cons.mp hb with rfl | hb
   ·exact (((Keep.same s1).trans kp2).trans kp3).free hl1 hne4
   exact g1 b hb
def sp_begin_anew (t:Adr):Sp:=fun vs H Q _=>∃R d,vs=[.ref R.a]∧RecAt t H R d∧∀H' R',R'.a=R.a→RecAt t H' R' Km415.fresh→FrS R R' H H'→Q (.int 0) H'
theorem ok_begin_anew (F:Fun K "begin_anew" "begin_anew" s_begin_anew f fd) (T:Txt K mg t) (M_Yard:Md P w K mg base "Yard" t.cYard 1 ["self"] (sp_Yard t)):FnOk P w K mg base CX0 3 f fd ["record"] (sp_begin_anew t):=by
 refine F.ok sc_begin_anew (fun vs H Q E h=>?_) (fun cdv _ outer s H vs Q E hr h=>?_)
 ·obtain ⟨R,d,rfl,_⟩:=h;rfl
 ·obtain ⟨R,d,rfl,hR,kk⟩:=h
  have nd:=sc_begin_anew.nd
  obtain ⟨dx,hx⟩:=hR.me
  refine ⟨_,(pss_cons (ps_fldK K (pv 0) (pe_mk0 M_Yard (hr.mono (by decide)) rfl) rfl) (pss_cons (ps_fldK K (pv 0) (pe_lst pa_nil) rfl) (pss_cons (ps_fldK K (pv 0) (pe_lst pa_nil) rfl) (pss_one (ps_ret pe_int))))),?_⟩
  intro y0 dy0 hy0 hdy0 hne
  refine ⟨y0,dy0,rfl,upd_same,fun H1 A1 ea kp1 fkl fml fcl fsl ap hy1 ecs=>⟨rfl,?_⟩⟩
  have s1:=made_same hy0 hdy0 kp1
  have g1:∀b∈lists A1,H b=none:=fun b hb=>lists_free (made_free fkl) (made_free fml) (made_free fcl) (made_free fsl) hb
  subst ea
  have hx1:=s1 _ _ hx
  walk_at "rd"
  refine rd_set hx1 T.cl_Record T.n_Record_now (by show 3 < 1000;decide) (show putF "now" (.ref A1.a) (recF R.now.a R.el R.ll)=recF A1.a R.el R.ll from rfl) ?_
  refine fld_on ?_
  intro H2 kp2 hx2
  have hy2:=hy1.keepRec hx1 kp2
  walk_at "rd"
  refine ⟨by decide,fun e1 he1=>?_⟩
  have hx2':(upd H2 e1 (.lst [])) R.a=some (.ins t.cRecord dx (recF A1.a R.el R.ll)):=by rw [upd_ne (ne_of_none hx2 he1)];exact hx2
  walk_at "rd"
  refine rd_set hx2' T.cl_Record T.n_Record_earlier (by show 3 < 1000;decide) rfl ?_
  have st3:=new_step (f:="earlier") hx2 he1 (l:=[]) (fs':=recF A1.a e1 R.ll)
  refine st3.on ?_
  clear st3 hx2'
  intro H3 kp3 hx3 hl3 hne3
  have hy3:=hy2.keepRec hx2 kp3
  walk_at "rd"
  refine ⟨by decide,fun l1 hl1=>?_⟩
  have hx3':(upd H3 l1 (.lst [])) R.a=some (.ins t.cRecord dx (recF A1.a e1 R.ll)):=by rw [upd_ne (ne_of_none hx3 hl1)];exact hx3
  walk_at "rd"
  refine rd_set hx3' T.cl_Record T.n_Record_later (by show 3 < 1000;decide) rfl ?_
  have st4:=new_step (f:="later") hx3 hl1 (l:=[]) (fs':=recF A1.a e1 l1)
  refine st4.on ?_
  clear st4 hx3'
  intro H4 kp4 hx4 hl4 hne4
  have hy4:=hy3.keepRec hx3 kp4
  have kpA:Keep R.a H H4:=(((Keep.same s1).trans kp2).trans kp3).trans kp4
  have o1:e1 ∉ lists A1:=hy2.fresh_out he1
  have o2:l1 ∉ lists A1:=hy3.fresh_out hl1
  have hel:e1≠l1:=ne_of_none hl3 hl1
  have f1:H e1=none:=((Keep.same s1).trans kp2).free he1 hne3
  have f2:H l1=none:=(((Keep.same s1).trans kp2).trans kp3).free hl1 hne4
  walk_at "rd"
  refine kk H4 { a:=R.a,el:=e1,ll:=l1,now:=A1,past:=[],fut:=[] } rfl ⟨⟨dx,hx4⟩,kp4 _ _ hl3 hne3,hl4,hy4,.nil,.nil,hel,fun A hA=>?_⟩ fun b o hb hn=>⟨?_,kpA _ _ hb (own3 hn).1⟩
  ·have:A=A1:=by simpa using hA
   subst this
   exact ⟨o1,o2⟩
  ·refine not_own (own3 hn).1 (fun e=>?_) (fun e=>?_) fun A hA q=>?_
   ·have e':b=e1:=e
    rw [e',f1] at hb;cases hb
   ·have e':b=l1:=e
    rw [e',f2] at hb;cases hb
   ·have:A=A1:=by simpa using hA
    subst this
    rw [g1 b q] at hb;cases hb
theorem take_rev (l:List YA):(yardsL l).eraseIdx 0=yardsL (l.take (l.length - 1)):=by
 unfold yardsL
 rw [List.eraseIdx_zero,←List.map_tail,List.reverse_take]
 congr 1
 by_cases h:l.length=0
 ·have:l=[]:=List.eq_nil_of_length_eq_zero h
  subst this;rfl
 ·rw [show l.length - (l.length - 1)=1 by omega,List.drop_one]
def sp_keep_change (t:Adr):Sp:=fun vs H Q _=>∃R d A' y',vs=[.ref R.a,.ref A'.a]∧RecAt t H R d∧d.past.length≤30∧YardAt t H A' y'∧R.el ∉ lists A'∧R.ll ∉ lists A' ∧
 ∀H' R',R'.a=R.a→RecAt t H' R' (d.become y')→(∀b o,H b=some o→b ∉ recOwn R→b ∉ lists A'→b ∉ recOwn R'∧H' b=some o)→Q .non H'
theorem paired_take {α β:Type} {S:α→β→Prop}:∀{l:List α} {m:List β} (n:Nat),Paired S l m→Paired S (l.take n) (m.take n)
 | _,_,0,_=>.nil
 | _,_,_+1,.nil=>.nil
 | _,_,n+1,.cons r t=>.cons r (paired_take n t)
theorem ok_keep_change (F:Fun K "keep_change" "keep_change" s_keep_change f fd) (T:Txt K mg t):FnOk P w K mg base CX0 1 f fd ["record","draft"] (sp_keep_change t):=by
 refine F.ok sc_keep_change (fun vs H Q E h=>?_) (fun cdv _ outer s H vs Q E hr h=>?_)
 ·obtain ⟨R,d,A',y',rfl,_⟩:=h;rfl
 ·obtain ⟨R,d,A',y',rfl,hR,h30,hy',ne1,ne2,kk⟩:=h
  have nd:=sc_keep_change.nd
  obtain ⟨dx,hx⟩:=hR.me
  have hel:=hR.el
  have hpl:R.past.length=d.past.length:=Paired.length hR.past
  have hap:=hR.ap
  refine ⟨_,(pss_cons (ps_expr (pe_bmK K PySem.F.plainAttrs_list PySem.F.slot_list_append PySem.F.type_list_append mt_append (pe_fldK K (pv 0) rfl) (pa_cons (pe_fldK K (pv 0) rfl) pa_nil))) (pss_cons (ps_if (pt_cmpR op_gt (pe_callB (call_lenK K) (by rfl) T.b_len PySem.boot_len (pa_cons (pe_fldK K (pv 0) rfl) pa_nil)) (pe_gi rfl T.g_MOST_BACK) (nomark _)) (pss_one (ps_expr (pe_bmK K PySem.F.plainAttrs_list PySem.F.slot_list_pop PySem.F.type_list_pop mt_popAt (pe_fldK K (pv 0) rfl) (pa_cons pe_int pa_nil)))) pss_nil) (pss_cons (ps_fldK K (pv 0) (pe_lst pa_nil) rfl) (pss_one (ps_fldK K (pv 0) (pv 1) rfl))))),?_⟩
  walk_at "rd"
  refine ⟨.inl ⟨rfl,_,SqL.of hel⟩,?_⟩
  walk_at "rd"
  refine ⟨R.el,_,_,rfl,rfl,hel,small (by rw [yardsL_len];omega),?_⟩
  rw [←yardsL_cons]
  have step:∀(H1:Hp),Keep R.el H H1→H1 R.el=some (.lst (yardsL ((R.now::R.past).take 30)))→∀(l1:Addr),H1 l1=none→
    ∀H2,Keep R.a (upd H1 l1 (.lst [])) H2→H2 R.a=some (.ins t.cRecord dx (recF A'.a R.el l1))→Q .non H2:=by
   intro H1 kp1 he1 l1 hl1 H2 kp2 hx2
   have hxe:R.a≠R.el:=ne_il hx hel
   have hx1:=kp1 _ _ hx hxe
   have kl1:Same H1 (upd H1 l1 (.lst [])):=same_new hl1
   have hx1':=kl1 _ _ hx1
   have nel:R.el≠R.a:=fun e=>hxe e.symm
   have nl1:l1≠R.a:=fun e=>by rw [e,hx1] at hl1;cases hl1
   have he1':=kl1 _ _ he1
   have hyN:=((hR.now.keepL hel (hap _ (by simp)).1 kp1).same kl1).keepRec hx1' kp2
   have hyA:=((hy'.keepL hel ne1 kp1).same kl1).keepRec hx1' kp2
   have hyP:Paired (YardAt t H2) R.past d.past:=paired_mem hR.past fun A hA _ q=>((q.keepL hel (hap A (by simp [hA])).1 kp1).same kl1).keepRec hx1' kp2
   have hl0:H l1=none:=kp1.free hl1 (fun e=>by rw [e,he1] at hl1;cases hl1)
   refine kk H2 { a:=R.a,el:=R.el,ll:=l1,now:=A',past:=(R.now::R.past).take 30,fut:=[] } rfl ⟨⟨dx,hx2⟩,kp2 _ _ he1' nel,kp2 _ _ upd_same nl1,hyA,paired_take 30 (.cons hyN hyP),.nil,?_,fun A hA=>?_⟩ fun b o hb hn hnA=>⟨?_,?_⟩
   ·exact fun e=>by have e':R.el=l1:=e;rw [e',hl1] at he1;cases he1
   ·rw [List.append_nil] at hA
    rcases List.mem_cons.mp hA with rfl | hA
    ·exact ⟨ne1,hy'.fresh_out hl0⟩
    ·have hA':=List.mem_of_mem_take hA
     rcases List.mem_cons.mp hA' with rfl | hA'
     ·exact ⟨(hap _ (by simp)).1,hR.now.fresh_out hl0⟩
     ·obtain ⟨i,hi,e⟩:=List.getElem_of_mem hA'
      obtain ⟨z,_,q⟩:=paired_get' hR.past (show R.past[i]?=some A by rw [List.getElem?_eq_getElem hi,e])
      exact ⟨(hap A (by simp [hA'])).1,q.fresh_out hl0⟩
   ·refine not_own (own3 hn).1 (own3 hn).2.1 (fun e=>?_) fun A hA=>?_
    ·have e':b=l1:=e
     rw [e',hl0] at hb;cases hb
    ·rw [List.append_nil] at hA
     rcases List.mem_cons.mp hA with rfl | hA
     ·exact hnA
     ·have hA':=List.mem_of_mem_take hA
      rcases List.mem_cons.mp hA' with rfl | hA'
      ·exact own_lists hn _ (by simp)
      ·exact own_lists hn _ (by simp [hA'])
   ·exact kp2 _ _ (kl1 _ _ (kp1 _ _ hb (own3 hn).2.1)) (own3 hn).1
  have hxe:R.a≠R.el:=ne_il hx hel
  have tail:∀(H1:Hp),Keep R.el H H1→H1 R.el=some (.lst (yardsL ((R.now::R.past).take 30)))→∀(l1:Addr),H1 l1=none→(upd H1 l1 (.lst [])) R.a=some (.ins t.cRecord dx (recF R.now.a R.el R.ll)):=fun H1 kp1 he1 l1 hl1=>by
   rw [upd_ne (fun e=>by rw [e] at hxe;have:=kp1 _ _ hx (by rw [e];exact hxe);rw [e,hl1] at this;cases this)]
   exact kp1 _ _ hx hxe
  generalize hH1:upd H R.el (.lst (yardsL (R.now::R.past)))=H1
  have kp1:Keep R.el H H1:=by rw [←hH1];exact Keep.upd _ _ _
  have he1:H1 R.el=some (.lst (yardsL (R.now::R.past))):=by rw [←hH1];exact upd_same
  have hx1:=kp1 _ _ hx hxe
  clear hx
  walk_at "rd"
  rw [yardsL_len]
  show if decide ((30:Int) < (((R.now::R.past).length:Nat):Int))=true then _ else _
  rw [show decide ((30:Int) < (((R.now::R.past).length:Nat):Int))=decide (30 < (R.now::R.past).length) from dec_ltN 30 _ rfl rfl]
  by_cases h31:30 < (R.now::R.past).length
  ·rw [decide_eq_true h31]
   have hlen:(R.now::R.past).length=31:=by
    rw [List.length_cons] at h31 ⊢
    omega
   refine iteT ?_
   walk_at "rd"
   refine ⟨.inl ⟨rfl,_,SqL.of he1⟩,?_⟩
   obtain ⟨v0,hv0⟩:∃v,(yardsL (R.now::R.past))[0]?=some v:=⟨_,List.getElem?_eq_getElem (by rw [yardsL_len];omega)⟩
   refine ⟨R.el,_,0,0,v0,rfl,rfl,he1,by decide,by decide,by rw [yardsL_len,hlen];decide,hv0,?_⟩
   rw [take_rev,hlen]
   generalize hH2:upd H1 R.el (.lst (yardsL ((R.now::R.past).take (31 - 1))))=H2
   have kp2:Keep R.el H H2:=kp1.trans (by rw [←hH2];exact Keep.upd _ _ _)
   have he2:H2 R.el=some (.lst (yardsL ((R.now::R.past).take 30))):=by rw [←hH2];exact upd_same
   have hx2:H2 R.a=some (.ins t.cRecord dx (recF R.now.a R.el R.ll)):=by rw [←hH2,upd_ne hxe];exact hx1
   clear hx1
   walk_at "rd"
   refine ⟨by decide,fun l1 hl1=>?_⟩
   have hx3:=tail H2 kp2 he2 l1 hl1
   walk_at "rd"
   refine rd_set hx3 T.cl_Record T.n_Record_later (by show 3 < 1000;decide) (show putF "later" (.ref l1) (recF R.now.a R.el R.ll)=recF R.now.a R.el l1 from rfl) ?_
   walk_at "rd"
   refine rd_set upd_same T.cl_Record T.n_Record_now (by show 3 < 1000;decide) (show putF "now" (.ref A'.a) (recF R.now.a R.el l1)=recF A'.a R.el l1 from rfl) ?_
   exact step H2 kp2 he2 l1 hl1 _ ((Keep.upd _ _ _).trans (Keep.upd _ _ _)) upd_same
  ·rw [decide_eq_false h31]
   have e30:(R.now::R.past).take 30=R.now::R.past:=List.take_of_length_le (by omega)
   rw [←e30] at he1
   refine iteF ?_
   walk_at "rd"
   refine ⟨by decide,fun l1 hl1=>?_⟩
   have hx3:=tail H1 kp1 he1 l1 hl1
   walk_at "rd"
   refine rd_set hx3 T.cl_Record T.n_Record_later (by show 3 < 1000;decide) (show putF "later" (.ref l1) (recF R.now.a R.el R.ll)=recF R.now.a R.el l1 from rfl) ?_
   walk_at "rd"
   refine rd_set upd_same T.cl_Record T.n_Record_now (by show 3 < 1000;decide) (show putF "now" (.ref A'.a) (recF R.now.a R.el l1)=recF A'.a R.el l1 from rfl) ?_
   exact step H1 kp1 he1 l1 hl1 _ ((Keep.upd _ _ _).trans (Keep.upd _ _ _)) upd_same
theorem shift {H H3:Hp} {R:RA} {d:Km415.Desk} {dx:Addr} (hR:RecAt t H R d) (hx:H R.a=some (.ins t.cRecord dx (recF R.now.a R.el R.ll))) {A1:YA} (e3:H3 R.a=some (.ins t.cRecord dx (recF A1.a R.el R.ll))) {v1 v2:List V}
  (he:H3 R.el=some (.lst v1)) (hl:H3 R.ll=some (.lst v2)) (kp:∀b o,H b=some o→b≠R.a→b≠R.el→b≠R.ll→H3 b=some o) {A:YA} {y:Km415.Yard} (hA:A∈R.now::(R.past++R.fut)) (hy:YardAt t H A y):YardAt t H3 A y:=by
 have hel:=hR.el
 have hll:=hR.ll
 have n1:R.a≠R.el:=ne_il hx hel
 have n2:R.a≠R.ll:=ne_il hx hll
 have n3:=hR.ne
 obtain ⟨a1,a2⟩:=hR.ap A hA
 have h1:YardAt t (upd H R.el (.lst v1)) A y:=hy.keepL hel a1 (Keep.upd _ _ _)
 have hll1:(upd H R.el (.lst v1)) R.ll=some (.lst (yardsL R.fut)):=by rw [upd_ne (fun e=>n3 e.symm)];exact hll
 have h2:YardAt t (upd (upd H R.el (.lst v1)) R.ll (.lst v2)) A y:=h1.keepL hll1 a2 (Keep.upd _ _ _)
 have hx2:(upd (upd H R.el (.lst v1)) R.ll (.lst v2)) R.a=some (.ins t.cRecord dx (recF R.now.a R.el R.ll)):=by rw [upd_ne n2,upd_ne n1];exact hx
 refine h2.keepRec hx2 fun b o hb hn=>?_
 by_cases q2:b=R.ll
 ·subst q2
  rw [upd_same] at hb
  cases hb
  exact hl
 ·rw [upd_ne q2] at hb
  by_cases q1:b=R.el
  ·subst q1
   rw [upd_same] at hb
   cases hb
   exact he
  ·rw [upd_ne q1] at hb
   exact kp b o hb hn q1 q2
def sp_hist (t:Adr) (c:Km415.Call):Sp:=fun vs H Q _=>∃R d,vs=[.ref R.a]∧RecAt t H R d∧d.past.length+d.future.length≤30∧∀H' R',R'.a=R.a→RecAt t H' R' (Km415.act d c).1→FrS R R' H H'→Q (.int (Km415.act d c).2.value) H'
theorem ok_take_back (F:Fun K "take_back" "take_back" s_take_back f fd) (T:Txt K mg t):FnOk P w K mg base CX0 1 f fd ["record"] (sp_hist t .back):=by
 refine F.ok sc_take_back (fun vs H Q E h=>?_) (fun cdv _ outer s H vs Q E hr h=>?_)
 ·obtain ⟨R,d,rfl,_⟩:=h;rfl
 ·obtain ⟨R,d,rfl,hR,h30,kk⟩:=h
  have nd:=sc_take_back.nd
  obtain ⟨dx,hx⟩:=hR.me
  have hel:=hR.el
  have hll:=hR.ll
  have hpl:R.past.length=d.past.length:=Paired.length hR.past
  have hfl:R.fut.length=d.future.length:=Paired.length hR.fut
  have n1:R.a≠R.el:=ne_il hx hel
  have n2:R.a≠R.ll:=ne_il hx hll
  have n3:=hR.ne
  refine ⟨_,(pss_cons (ps_if (pt_cmpR op_eq (pe_callB (call_lenK K) (by rfl) T.b_len PySem.boot_len (pa_cons (pe_fldK K (pv 0) rfl) pa_nil)) pe_int (nomark _)) (pss_one (ps_ret (pe_gi rfl T.g_NOT_THERE))) pss_nil) (pss_cons (ps_expr (pe_bmK K PySem.F.plainAttrs_list PySem.F.slot_list_append PySem.F.type_list_append mt_append (pe_fldK K (pv 0) rfl) (pa_cons (pe_fldK K (pv 0) rfl) pa_nil))) (pss_cons (ps_fldK K (pv 0) (pe_bm0K K PySem.F.plainAttrs_list PySem.F.slot_list_pop PySem.F.type_list_pop mt_pop (pe_fldK K (pv 0) rfl)) rfl) (pss_one (ps_ret (pe_callB (call_lenK K) (by rfl) T.b_len PySem.boot_len (pa_cons (pe_fldK K (pv 0) rfl) pa_nil))))))),?_⟩
  walk_at "rd"
  rw [yardsL_len]
  show if decide (V.int ((R.past.length:Nat):Int)=V.int ((0:Nat):Int))=true then _ else _
  rw [dec_nat]
  obtain ⟨dn,dp,df⟩:=d
  cases dp with
  | nil =>
   have h0:R.past.length=0:=hpl
   rw [decide_eq_true h0]
   exact iteT (kk H R rfl hR fun b o hb hn=>⟨hn,hb⟩)
  | cons y1 ys =>
   have hRp:=hR.past
   have hfl:R.fut.length=df.length:=hfl
   have hpl:R.past.length=ys.length+1:=hpl
   have h30:ys.length+1+df.length≤30:=h30
   cases hp:R.past with
   | nil=>rw [hp] at hpl;cases hpl
   | cons A1 As =>
    rw [decide_eq_false (by rw [←hp];omega)]
    refine iteF ?_
    walk_at "rd"
    refine ⟨.inl ⟨rfl,_,SqL.of hll⟩,?_⟩
    walk_at "rd"
    refine ⟨R.ll,_,_,rfl,rfl,hll,small (by rw [yardsL_len];omega),?_⟩
    rw [←yardsL_cons]
    generalize hH1:upd H R.ll (.lst (yardsL (R.now::R.fut)))=H1
    have hx1:H1 R.a=some (.ins t.cRecord dx (recF R.now.a R.el R.ll)):=by rw [←hH1,upd_ne n2];exact hx
    have he1:H1 R.el=some (.lst (yardsL As++[.ref A1.a])):=by rw [←hH1,upd_ne n3,hel,hp,yardsL_cons]
    have hl1:H1 R.ll=some (.lst (yardsL (R.now::R.fut))):=by rw [←hH1];exact upd_same
    have kp1:∀b o,H b=some o→b≠R.ll→H1 b=some o:=by rw [←hH1];exact Keep.upd _ _ _
    walk_at "rd"
    refine ⟨.inl ⟨rfl,_,SqL.of he1⟩,?_⟩
    refine ⟨R.el,_,.ref A1.a,rfl,rfl,he1,?_,?_⟩
    ·rw [List.length_append,List.length_singleton,Nat.add_sub_cancel,List.getElem?_append_right (Nat.le_refl _),Nat.sub_self];rfl
    rw [List.dropLast_concat]
    generalize hH2:upd H1 R.el (.lst (yardsL As))=H2
    have hx2:H2 R.a=some (.ins t.cRecord dx (recF R.now.a R.el R.ll)):=by rw [←hH2,upd_ne n1];exact hx1
    have he2:H2 R.el=some (.lst (yardsL As)):=by rw [←hH2];exact upd_same
    have hl2:H2 R.ll=some (.lst (yardsL (R.now::R.fut))):=by rw [←hH2,upd_ne (fun e=>n3 e.symm)];exact hl1
    have kp2:∀b o,H1 b=some o→b≠R.el→H2 b=some o:=by rw [←hH2];exact Keep.upd _ _ _
    clear hx1 he1 hl1
    walk_at "rd"
    refine rd_set hx2 T.cl_Record T.n_Record_now (by show 3 < 1000;decide) (show putF "now" (.ref A1.a) (recF R.now.a R.el R.ll)=recF A1.a R.el R.ll from rfl) ?_
    refine fld_on ?_
    intro H3 kp3 hx3
    have he3:=kp3 _ _ he2 (fun e=>n1 e.symm)
    have hl3:=kp3 _ _ hl2 (fun e=>n2 e.symm)
    have kpA:∀b o,H b=some o→b≠R.a→b≠R.el→b≠R.ll→H3 b=some o:=fun b o q z1 z2 z3=>kp3 _ _ (kp2 _ _ (kp1 _ _ q z3) z2) z1
    have mv:∀{A:YA} {y:Km415.Yard},A∈R.now::(R.past++R.fut)→YardAt t H A y→YardAt t H3 A y:=fun hA hy=>shift hR hx hx3 he3 hl3 kpA hA hy
    clear hx2
    walk_at "rd"
    rw [yardsL_len]
    rw [hp] at hRp
    obtain ⟨hA1,hAs⟩:YardAt t H A1 y1∧Paired (YardAt t H) As ys:=by cases hRp with | cons r q=>exact ⟨r,q⟩
    have hm1:A1∈R.now::(R.past++R.fut):=by rw [hp];simp
    have hal:As.length=ys.length:=Paired.length hAs
    have key:=kk H3 { a:=R.a,el:=R.el,ll:=R.ll,now:=A1,past:=As,fut:=R.now::R.fut } rfl ⟨⟨dx,hx3⟩,he3,hl3,mv hm1 hA1,paired_mem hAs fun A hA _ q=>mv (by rw [hp];simp [hA]) q,.cons (mv (by simp) hR.now) (paired_mem hR.fut fun A hA _ q=>mv (by simp [hA]) q),n3,fun A hA=>?_⟩ fun b o hb hn=>⟨?_,kpA b o hb (own3 hn).1 (own3 hn).2.1 (own3 hn).2.2⟩
    ·rw [hal];exact key
    ·have:A∈R.now::(R.past++R.fut):=by
      rw [hp]
      simp only [List.mem_cons,List.mem_append] at hA ⊢
      rcases hA with q | q | q | q
      ·exact .inr (.inl (.inl q))
      ·exact .inr (.inl (.inr q))
      ·exact .inl q
      ·exact .inr (.inr q)
     exact hR.ap A this
    ·refine not_own (own3 hn).1 (own3 hn).2.1 (own3 hn).2.2 fun A hA=>own_lists hn A ?_
     rw [hp]
     simp only [List.mem_cons,List.mem_append] at hA ⊢
     rcases hA with q | q | q | q
     ·exact .inr (.inl (.inl q))
     ·exact .inr (.inl (.inr q))
     ·exact .inl q
     ·exact .inr (.inr q)
theorem ok_do_again (F:Fun K "do_again" "do_again" s_do_again f fd) (T:Txt K mg t):FnOk P w K mg base CX0 1 f fd ["record"] (sp_hist t .again):=by
 refine F.ok sc_do_again (fun vs H Q E h=>?_) (fun cdv _ outer s H vs Q E hr h=>?_)
 ·obtain ⟨R,d,rfl,_⟩:=h;rfl
 ·obtain ⟨R,d,rfl,hR,h30,kk⟩:=h
  have nd:=sc_do_again.nd
  obtain ⟨dx,hx⟩:=hR.me
  have hel:=hR.el
  have hll:=hR.ll
  have hpl:R.past.length=d.past.length:=Paired.length hR.past
  have hfl:R.fut.length=d.future.length:=Paired.length hR.fut
  have n1:R.a≠R.el:=ne_il hx hel
  have n2:R.a≠R.ll:=ne_il hx hll
  have n3:=hR.ne
  refine ⟨_,(pss_cons (ps_if (pt_cmpR op_eq (pe_callB (call_lenK K) (by rfl) T.b_len PySem.boot_len (pa_cons (pe_fldK K (pv 0) rfl) pa_nil)) pe_int (nomark _)) (pss_one (ps_ret (pe_gi rfl T.g_NOT_THERE))) pss_nil) (pss_cons (ps_expr (pe_bmK K PySem.F.plainAttrs_list PySem.F.slot_list_append PySem.F.type_list_append mt_append (pe_fldK K (pv 0) rfl) (pa_cons (pe_fldK K (pv 0) rfl) pa_nil))) (pss_cons (ps_fldK K (pv 0) (pe_bm0K K PySem.F.plainAttrs_list PySem.F.slot_list_pop PySem.F.type_list_pop mt_pop (pe_fldK K (pv 0) rfl)) rfl) (pss_one (ps_ret (pe_callB (call_lenK K) (by rfl) T.b_len PySem.boot_len (pa_cons (pe_fldK K (pv 0) rfl) pa_nil))))))),?_⟩
  walk_at "rd"
  rw [yardsL_len]
  show if decide (V.int ((R.fut.length:Nat):Int)=V.int ((0:Nat):Int))=true then _ else _
  rw [dec_nat]
  obtain ⟨dn,dp,df⟩:=d
  cases df with
  | nil =>
   have h0:R.fut.length=0:=hfl
   rw [decide_eq_true h0]
   exact iteT (kk H R rfl hR fun b o hb hn=>⟨hn,hb⟩)
  | cons y1 ys =>
   have hRf:=hR.fut
   have hfl:R.fut.length=ys.length+1:=hfl
   have hpl:R.past.length=dp.length:=hpl
   have h30:dp.length+(ys.length+1)≤30:=h30
   cases hp:R.fut with
   | nil=>rw [hp] at hfl;cases hfl
   | cons A1 As =>
    rw [decide_eq_false (by rw [←hp];omega)]
    refine iteF ?_
    walk_at "rd"
    refine ⟨.inl ⟨rfl,_,SqL.of hel⟩,?_⟩
    walk_at "rd"
    refine ⟨R.el,_,_,rfl,rfl,hel,small (by rw [yardsL_len];omega),?_⟩
    rw [←yardsL_cons]
    generalize hH1:upd H R.el (.lst (yardsL (R.now::R.past)))=H1
    have hx1:H1 R.a=some (.ins t.cRecord dx (recF R.now.a R.el R.ll)):=by rw [←hH1,upd_ne n1];exact hx
    have hl1:H1 R.ll=some (.lst (yardsL As++[.ref A1.a])):=by rw [←hH1,upd_ne (fun e=>n3 e.symm),hll,hp,yardsL_cons]
    have he1:H1 R.el=some (.lst (yardsL (R.now::R.past))):=by rw [←hH1];exact upd_same
    have kp1:∀b o,H b=some o→b≠R.el→H1 b=some o:=by rw [←hH1];exact Keep.upd _ _ _
    walk_at "rd"
    refine ⟨.inl ⟨rfl,_,SqL.of hl1⟩,?_⟩
    refine ⟨R.ll,_,.ref A1.a,rfl,rfl,hl1,?_,?_⟩
    ·rw [List.length_append,List.length_singleton,Nat.add_sub_cancel,List.getElem?_append_right (Nat.le_refl _),Nat.sub_self];rfl
    rw [List.dropLast_concat]
    generalize hH2:upd H1 R.ll (.lst (yardsL As))=H2
    have hx2:H2 R.a=some (.ins t.cRecord dx (recF R.now.a R.el R.ll)):=by rw [←hH2,upd_ne n2];exact hx1
    have hl2:H2 R.ll=some (.lst (yardsL As)):=by rw [←hH2];exact upd_same
    have he2:H2 R.el=some (.lst (yardsL (R.now::R.past))):=by rw [←hH2,upd_ne n3];exact he1
    have kp2:∀b o,H1 b=some o→b≠R.ll→H2 b=some o:=by rw [←hH2];exact Keep.upd _ _ _
    clear hx1 he1 hl1
    walk_at "rd"
    refine rd_set hx2 T.cl_Record T.n_Record_now (by show 3 < 1000;decide) (show putF "now" (.ref A1.a) (recF R.now.a R.el R.ll)=recF A1.a R.el R.ll from rfl) ?_
    refine fld_on ?_
    intro H3 kp3 hx3
    have he3:=kp3 _ _ he2 (fun e=>n1 e.symm)
    have hl3:=kp3 _ _ hl2 (fun e=>n2 e.symm)
    have kpA:∀b o,H b=some o→b≠R.a→b≠R.el→b≠R.ll→H3 b=some o:=fun b o q z1 z2 z3=>kp3 _ _ (kp2 _ _ (kp1 _ _ q z2) z3) z1
    have mv:∀{A:YA} {y:Km415.Yard},A∈R.now::(R.past++R.fut)→YardAt t H A y→YardAt t H3 A y:=fun hA hy=>shift hR hx hx3 he3 hl3 kpA hA hy
    clear hx2
    walk_at "rd"
    rw [yardsL_len]
    rw [hp] at hRf
    obtain ⟨hA1,hAs⟩:YardAt t H A1 y1∧Paired (YardAt t H) As ys:=by cases hRf with | cons r q=>exact ⟨r,q⟩
    have hm1:A1∈R.now::(R.past++R.fut):=by rw [hp];simp
    have hal:As.length=ys.length:=Paired.length hAs
    have htk:(dn::dp).take Km415.PAST=dn::dp:=List.take_of_length_le (by show dp.length+1≤30;omega)
    have kk':∀H' R',R'.a=R.a→RecAt t H' R' ⟨y1,(dn::dp).take Km415.PAST,ys⟩→FrS R R' H H'→Q (.int ((ys.length:Nat):Int)) H':=kk
    rw [htk] at kk'
    have key:=kk' H3 { a:=R.a,el:=R.el,ll:=R.ll,now:=A1,past:=R.now::R.past,fut:=As } rfl ⟨⟨dx,hx3⟩,he3,hl3,mv hm1 hA1,.cons (mv (by simp) hR.now) (paired_mem hR.past fun A hA _ q=>mv (by simp [hA]) q),paired_mem hAs fun A hA _ q=>mv (by rw [hp];simp [hA]) q,n3,fun A hA=>?_⟩ fun b o hb hn=>⟨?_,kpA b o hb (own3 hn).1 (own3 hn).2.1 (own3 hn).2.2⟩
    ·rw [hal];exact key
    ·have:A∈R.now::(R.past++R.fut):=by
      rw [hp]
      simp only [List.mem_cons,List.mem_append] at hA ⊢
      rcases hA with q | (q | q) | q
      ·exact .inr (.inr (.inl q))
      ·exact .inl q
      ·exact .inr (.inl q)
      ·exact .inr (.inr (.inr q))
     exact hR.ap A this
    ·refine not_own (own3 hn).1 (own3 hn).2.1 (own3 hn).2.2 fun A hA=>own_lists hn A ?_
     rw [hp]
     simp only [List.mem_cons,List.mem_append] at hA ⊢
     rcases hA with q | (q | q) | q
     ·exact .inr (.inr (.inl q))
     ·exact .inl q
     ·exact .inr (.inl q)
     ·exact .inr (.inr (.inr q))
end
end Y58
namespace Y58
open PySem PySem.Spec PyProof.Rows L2
abbrev s_Call_init:Stmt:=inClass (top 106) 0
theorem sc_Call_init:FnScope ["self","number","given","row"] ["self","number","given","row"] (defScope s_Call_init):=by walk_at "sc"
abbrev s_ask_state:Stmt:=top 34
theorem sc_ask_state:FnScope ["record","yard","crushed","in_stock","counts","car"] ["record"] (defScope s_ask_state):=by walk_at "sc"
abbrev s_change:Stmt:=top 139
theorem sc_change:FnScope ["yard","call","given"] ["yard","call"] (defScope s_change):=by walk_at "sc"
abbrev s_ask_of_car:Stmt:=top 140
theorem sc_ask_of_car:FnScope ["yard","call","given"] ["yard","call"] (defScope s_ask_of_car):=by walk_at "sc"
abbrev s_ask_of_parts:Stmt:=top 141
theorem sc_ask_of_parts:FnScope ["yard","call","given"] ["yard","call"] (defScope s_ask_of_parts):=by walk_at "sc"
abbrev s_ask_of_accounts:Stmt:=top 142
theorem sc_ask_of_accounts:FnScope ["yard","call"] ["yard","call"] (defScope s_ask_of_accounts):=by walk_at "sc"
abbrev s_ask:Stmt:=top 143
theorem sc_ask:FnScope ["yard","call"] ["yard","call"] (defScope s_ask):=by walk_at "sc"
section
variable {P:Program} {w:World} {K:PySem.W.Frag} {mg:Str→Option Value} {base:Heap} {t:Adr} {f:Addr} {fd:FuncData}
set_option hygiene false in
local macro_rules | `(tactic| walk_at "gx")=>`(tactic| repeat (first | (refine ⟨gv,_,((0:Nat):Int),_,rfl,rfl,SqL.of hgv,atI_nat e0,?_⟩;walk_at "rd") | (refine ⟨gv,_,((1:Nat):Int),_,rfl,rfl,SqL.of hgv,atI_nat e1,?_⟩;walk_at "rd") | (refine ⟨gv,_,((2:Nat):Int),_,rfl,rfl,SqL.of hgv,atI_nat e2,?_⟩;walk_at "rd") | (refine ⟨gv,_,((3:Nat):Int),_,rfl,rfl,SqL.of hgv,atI_nat e3,?_⟩;walk_at "rd")))
theorem iteFc {c:Bool} {p q:Prop} (h:c=false) (x:q):if c=true then p else q:=by subst h;exact x
theorem iteTc {c:Bool} {p q:Prop} (h:c=true) (x:p):if c=true then p else q:=by subst h;exact x
def callNum (x:Km415.Call):Int:=((enc x).headD []).headD 0
def callGiven (x:Km415.Call):List Int:=((enc x).headD []).tail
def callRow (x:Km415.Call):List Int:=(enc x).getD 1 []
def callF (n:Int) (g r:Addr):List (Str×V):=[("number",.int n),("given",.ref g),("row",.ref r)]
def CallAt (t:Adr) (H:Hp) (c:Addr) (x:Km415.Call):Prop:=∃dx g r,H c=some (.ins t.cCall dx (callF (callNum x) g r))∧H g=some (.lst ((callGiven x).map V.int))∧H r=some (.lst ((callRow x).map V.int))
theorem CallAt.same {H H':Hp} {c:Addr} {x:Km415.Call} (s:Same H H') (h:CallAt t H c x):CallAt t H' c x:=by
 obtain ⟨dx,g,r,h1,h2,h3⟩:=h
 exact ⟨dx,g,r,s _ _ h1,s _ _ h2,s _ _ h3⟩
def sp_Call (t:Adr):Sp:=fun vs H Q _=>∃(x dx:Addr) (n:Int) (g r:Addr),vs=[.ref x,.int n,.ref g,.ref r]∧H x=some (.ins t.cCall dx [])∧∀H',Keep x H H'→H' x=some (.ins t.cCall dx (callF n g r))→Q .non H'
theorem ok_Call (F:Fun K "__init__" "Call.__init__" s_Call_init f fd) (T:Txt K mg t):FnOk P w K mg base CX0 1 f fd ["self","number","given","row"] (sp_Call t):=by
 refine F.ok sc_Call_init (fun vs H Q E h=>?_) (fun cdv _ outer s H vs Q E hr h=>?_)
 ·obtain ⟨x,dx,n,g,r,rfl,_⟩:=h;rfl
 ·obtain ⟨x,dx,n,g,r,rfl,hx,kk⟩:=h
  have nd:=sc_Call_init.nd
  refine ⟨_,(pss_cons (ps_fldK K (pv 0) (pv 1) rfl) (pss_cons (ps_fldK K (pv 0) (pv 2) rfl) (pss_one (ps_fldK K (pv 0) (pv 3) rfl)))),?_⟩
  walk_at "rd"
  refine rd_set hx T.cl_Call T.n_Call_number (by show 0 < 1000;decide) rfl ?_
  walk_at "rd"
  refine rd_set upd_same T.cl_Call T.n_Call_given (by show 1 < 1000;decide) rfl ?_
  walk_at "rd"
  refine rd_set upd_same T.cl_Call T.n_Call_row (by show 2 < 1000;decide) rfl ?_
  exact kk _ (((Keep.upd _ _ _).trans (Keep.upd _ _ _)).trans (Keep.upd _ _ _)) upd_same
theorem some_len:∀l:List (Option Km415.Part),(l.filterMap id).length+(l.filter fun x=>x.isNone).length=l.length
 | []=>rfl
 | none::l=>by
  have ih:=some_len l
  show (l.filterMap id).length+(none::l.filter fun x=>x.isNone).length=l.length+1
  rw [List.length_cons];omega
 | some p::l=>by
  have ih:=some_len l
  show (p::l.filterMap id).length+(l.filter fun x=>x.isNone).length=l.length+1
  rw [List.length_cons];omega
theorem ok_ask_state (F:Fun K "ask_state" "ask_state" s_ask_state f fd) (T:Txt K mg t) (F_free_places:Fd P w K mg base "free_places" 1 ["yard"] (sp_free_places t)) :
  FnOk P w K mg base CX0 2 f fd ["record"] (fun vs H Q _=>∃R d,vs=[.ref R.a]∧RecAt t H R d∧GoodD d∧AnsL H Q (Km415.act d .state).2):=by
 refine F.ok sc_ask_state (fun vs H Q E h=>?_) (fun cdv _ outer s H vs Q E hr h=>?_)
 ·obtain ⟨R,d,rfl,_⟩:=h;rfl
 ·obtain ⟨R,d,rfl,hR,gd,kk⟩:=h
  have nd:=sc_ask_state.nd
  have g:=gd.now
  have k1:AnsL H Q ⟨((d.now.cars.length:Nat):Int),[d.now.types.length,d.now.models.length,(d.now.cars.filter fun c=>c.gone).length,(Km415.inStock d.now).length,d.past.length,d.future.length]⟩:=kk
  obtain ⟨dx,hx⟩:=hR.me
  have hel:=hR.el
  have hll:=hR.ll
  have hpl:R.past.length=d.past.length:=Paired.length hR.past
  have hfl:R.fut.length=d.future.length:=Paired.length hR.fut
  have hy:=hR.now
  generalize hA:R.now=A at hy hx
  generalize hyd:d.now=y at hy g k1
  obtain ⟨dy,hme⟩:=hy.me
  have hcl:=hy.cl
  have hcn:=hy.cn
  have hc8:=g.cl
  refine ⟨_,(pss_cons (ps_set (i:=1) nd rfl (by walk_at "lo") (pe_fldK K (pv 0) rfl)) (pss_cons (ps_set (i:=2) nd rfl (by walk_at "lo") (pe_callB (call_lenK K) (by rfl) T.b_len PySem.boot_len (pa_cons (pe_lc rfl nd (pi_listK K (pe_fldK K (pv 1) rfl)) (blkOk_by (own:=[("car",5)]) rfl) (fun _ _ _ _ _=>(pg_name (i:=5) nd rfl (by walk_at "lo"))) (fun _ _ _ _ _=>(pts_one (pt_val (pe_fldK K (pv 5) rfl)))) (fun _ _ _ _ _=>(pv 5))) pa_nil))) (pss_cons (ps_set (i:=3) nd rfl (by walk_at "lo") (pe_op op_sub (pe_gi rfl T.g_PLACES) (pe_fn F_free_places (hr.mono (by decide)) rfl (pa_cons (pv 1) pa_nil)))) (pss_cons (ps_set (i:=4) nd rfl (by walk_at "lo") (pe_lst (pa_cons (pe_callB (call_lenK K) (by rfl) T.b_len PySem.boot_len (pa_cons (pe_fldK K (pv 1) rfl) pa_nil)) (pa_cons (pe_callB (call_lenK K) (by rfl) T.b_len PySem.boot_len (pa_cons (pe_fldK K (pv 1) rfl) pa_nil)) (pa_cons (pv 2) (pa_cons (pv 3) (pa_cons (pe_callB (call_lenK K) (by rfl) T.b_len PySem.boot_len (pa_cons (pe_fldK K (pv 0) rfl) pa_nil)) (pa_cons (pe_callB (call_lenK K) (by rfl) T.b_len PySem.boot_len (pa_cons (pe_fldK K (pv 0) rfl) pa_nil)) pa_nil)))))))) (pss_one (ps_ret (pe_op op_cat (pe_lst (pa_cons (pe_callB (call_lenK K) (by rfl) T.b_len PySem.boot_len (pa_cons (pe_fldK K (pv 1) rfl) pa_nil)) pa_nil)) (pv 4)))))))),?_⟩
  walk_at "rd"
  refine ⟨⟨_,SqL.of hcl⟩,fun D hD=>?_⟩
  refine lc_list (K:=K) (a:=A.cl) (xs:=A.cs.map V.ref) (fun i H'=>Same H H'∧∃acc,H' D=some (.lst acc)∧acc.length=((y.cars.take i).filter fun c=>c.gone).length) ⟨same_new hD,[],upd_same,rfl⟩ (fun i H' _ ⟨s2,_⟩=>SqL.of (s2 _ _ hcl)) ?_ ?_
  ·rintro i x H' hx ⟨s2,acc2,hE',hacc2⟩
   obtain ⟨b,hb,rfl⟩:=map_get hx
   obtain ⟨c,hc,⟨dc,hcb⟩⟩:=paired_get' (hy.same s2).cs hb
   have hle:acc2.length≤8:=by
    rw [hacc2]
    have h1:=List.length_filter_le (fun c:Km415.Car=>c.gone) (y.cars.take i)
    rw [List.length_take] at h1
    omega
   refine ⟨rfl,?_⟩
   walk_at "rd"
   rw [take_snoc hc,List.filter_append]
   cases e:c.gone with
   | true =>
    refine iteT ?_
    walk_at "rd"
    refine ⟨_,hE',small (by omega),same_upd s2 hD,_,upd_same,?_⟩
    rw [List.length_append,List.length_append,hacc2,List.filter_cons,if_pos e];rfl
   | false =>
    refine iteF ⟨s2,acc2,hE',?_⟩
    rw [List.length_append,hacc2,List.filter_cons,if_neg (by rw [e];decide)];rfl
  ·rintro H1 ⟨s1,acc,hD1,hacc⟩
   rw [hcn,List.take_length] at hacc
   have hme1:=s1 _ _ hme
   have hx1:=s1 _ _ hx
   have hel1:=s1 _ _ hel
   have hll1:=s1 _ _ hll
   have hy1:=hy.same s1
   have hkl1:=hy1.kl
   have hml1:=hy1.ml
   have hcl1:=hy1.cl
   have hkn:=hy.kn
   have hmn:=hy.mn
   clear hme hx hel hll hcl
   walk_at "rd"
   refine ⟨A,y,rfl,hy1,g,?_⟩
   have hsl:=some_len y.stock
   have hrl:y.room.length=(y.stock.filter fun x=>x.isNone).length:=frees_length g.sl
   have hs30:=g.sl
   have est:(30:Int) - ((y.room.length:Nat):Int)=(((Km415.inStock y).length:Nat):Int):=by
    have:(Km415.inStock y).length=(y.stock.filterMap id).length:=rfl
    omega
   walk_at "rd"
   refine ⟨by show 6≤sizeLine;decide,fun q hq=>?_⟩
   have hcl2:=same_new (o:=.lst [V.int (((A.ks.map V.ref).length:Nat):Int),V.int (((A.ms.map V.ref).length:Nat):Int),V.int ((acc.length:Nat):Int),V.int ((30:Int) - ((y.room.length:Nat):Int)),V.int (((yardsL R.past).length:Nat):Int),V.int (((yardsL R.fut).length:Nat):Int)]) hq _ _ hcl1
   have hme2:=same_new (o:=.lst [V.int (((A.ks.map V.ref).length:Nat):Int),V.int (((A.ms.map V.ref).length:Nat):Int),V.int ((acc.length:Nat):Int),V.int ((30:Int) - ((y.room.length:Nat):Int)),V.int (((yardsL R.past).length:Nat):Int),V.int (((yardsL R.fut).length:Nat):Int)]) hq _ _ hme1
   walk_at "rd"
   refine ⟨by show 1≤sizeLine;decide,fun q2 hq2=>?_⟩
   walk_at "rd"
   refine ⟨q2,q,_,_,rfl,rfl,upd_same,by rw [upd_ne (ne_of_none upd_same hq2)];exact upd_same,by show 1+6≤sizeLine;decide,fun r hr=>?_⟩
   refine k1.fin ((s1.trans (same_new hq)).trans (same_new hq2)) hr ?_
   rw [told_mk]
   show _=[V.int (((A.cs.map V.ref).length:Nat):Int),V.int (((A.ks.map V.ref).length:Nat):Int),V.int (((A.ms.map V.ref).length:Nat):Int),V.int ((acc.length:Nat):Int),V.int ((30:Int) - ((y.room.length:Nat):Int)),V.int (((yardsL R.past).length:Nat):Int),V.int (((yardsL R.fut).length:Nat):Int)]
   rw [est,hkn,hmn,hacc,yardsL_len,yardsL_len,hpl,hfl,hcn];rfl
def changeR (y:Km415.Yard):Km415.Call→Int×Option Km415.Yard
 | .type_ a b c e=>addKindR y a b c e
 | .model a b q=>addModelR y a b q
 | .car a b=>addCarR y a b
 | .drain k=>drainR y k
 | .off_ k n=>offR y k n
 | .strip k n=>stripR y k n
 | .gather_ m b=>gatherR y m b
 | .sell i p=>sellR y i p
 | .crush k=>crushR y k
 | .cart p=>cartR y p
 | .pump n p=>pumpR y n p
 | _=>(0,none)
def isChange (x:Km415.Call):Prop:=1≤callNum x∧callNum x≤11
theorem iN_list (q:List Nat):(q.map fun (n:Nat)=>(n:Int)).map V.int=q.map iN:=(iN_int q).symm
def sp_change (t:Adr) (Pt:Addr):Sp:=fun vs H Q _=>∃H0 A y c x,vs=[.ref A.a,.ref c]∧Draft t H0 H A y∧Good y∧TabL H Pt∧H0 Pt=none∧CallAt t H0 c x∧CallOk x∧isChange x∧Chg t Pt H0 A Q (changeR y x)
theorem ok_change {Pt:Addr} (F:Fun K "change" "change" s_change f fd) (T:Txt K mg t) (F_add_kind:Fd P w K mg base "add_kind" 3 ["yard","kg","minutes","needs","harm"] (sp_add_kind t)) (F_add_model:Fd P w K mg base "add_model" 3 ["yard","kg","litres","groups"] (sp_add_model t))
  (F_add_car:Fd P w K mg base "add_car" 3 ["yard","m","lacks"] (sp_chg2 t addCarR)) (F_drain_car:Fd P w K mg base "drain_car" 2 ["yard","k"] (sp_chg1 t drainR)) (F_take_part_off:Fd P w K mg base "take_part_off" 4 ["yard","k","t"] (sp_chg2 t offR))
  (F_strip_for:Fd P w K mg base "strip_for" 4 ["yard","k","t"] (sp_chg2 t stripR)) (F_gather_parts:Fd P w K mg base "gather_parts" 7 ["yard","m","wanted"] (sp_gather_parts t Pt)) (F_sell_part:Fd P w K mg base "sell_part" 2 ["yard","i","price"] (sp_chg2 t sellR))
  (F_crush_car:Fd P w K mg base "crush_car" 2 ["yard","k"] (sp_chg1 t crushR)) (F_cart_scrap:Fd P w K mg base "cart_scrap" 1 ["yard","price"] (sp_chg1 t cartR)) (F_pump_out:Fd P w K mg base "pump_out" 1 ["yard","n","price"] (sp_chg2 t pumpR)) :
  FnOk P w K mg base CX0 8 f fd ["yard","call"] (sp_change t Pt):=by
 refine F.ok sc_change (fun vs H Q E h=>?_) (fun cdv _ outer s H vs Q E hr h=>?_)
 ·obtain ⟨H0,A,y,c,x,rfl,_⟩:=h;rfl
 ·obtain ⟨H0,A,y,c,x,rfl,hd,g,hT,h0,hc,hok,hch,kk⟩:=h
  have nd:=sc_change.nd
  obtain ⟨dx,gv,rw_,hc1,hg0,hr0⟩:=hc
  have hcx:=hd.same _ _ hc1
  have hgv:=hd.same _ _ hg0
  have hrw:=hd.same _ _ hr0
  have hm:Draft t (less H A) H A y:=hd.max
  have kS:=Chg.small kk hd hT
  refine ⟨_,(pss_cons (ps_set (i:=2) nd rfl (by walk_at "lo") (pe_fldK K (pv 1) rfl)) (pss_cons (ps_if (pt_cmpR op_eq (pe_fldK K (pv 1) rfl) (pe_gi rfl T.g_ADD_KIND) (nomark _)) (pss_one (ps_ret (pe_fn F_add_kind (hr.mono (by decide)) rfl (pa_cons (pv 0) (pa_cons (pe_ix (ix_listK K) (pv 2) pe_int (fun _ _=>rfl)) (pa_cons (pe_ix (ix_listK K) (pv 2) pe_int (fun _ _=>rfl)) (pa_cons (pe_ix (ix_listK K) (pv 2) pe_int (fun _ _=>rfl)) (pa_cons (pe_ix (ix_listK K) (pv 2) pe_int (fun _ _=>rfl)) pa_nil)))))))) pss_nil) (pss_cons (ps_if (pt_cmpR op_eq (pe_fldK K (pv 1) rfl) (pe_gi rfl T.g_ADD_MODEL) (nomark _)) (pss_one (ps_ret (pe_fn F_add_model (hr.mono (by decide)) rfl (pa_cons (pv 0) (pa_cons (pe_ix (ix_listK K) (pv 2) pe_int (fun _ _=>rfl)) (pa_cons (pe_ix (ix_listK K) (pv 2) pe_int (fun _ _=>rfl)) (pa_cons (pe_fldK K (pv 1) rfl) pa_nil))))))) pss_nil) (pss_cons (ps_if (pt_cmpR op_eq (pe_fldK K (pv 1) rfl) (pe_gi rfl T.g_ADD_CAR) (nomark _)) (pss_one (ps_ret (pe_fn F_add_car (hr.mono (by decide)) rfl (pa_cons (pv 0) (pa_cons (pe_ix (ix_listK K) (pv 2) pe_int (fun _ _=>rfl)) (pa_cons (pe_ix (ix_listK K) (pv 2) pe_int (fun _ _=>rfl)) pa_nil)))))) pss_nil) (pss_cons (ps_if (pt_cmpR op_eq (pe_fldK K (pv 1) rfl) (pe_gi rfl T.g_DRAIN) (nomark _)) (pss_one (ps_ret (pe_fn F_drain_car (hr.mono (by decide)) rfl (pa_cons (pv 0) (pa_cons (pe_ix (ix_listK K) (pv 2) pe_int (fun _ _=>rfl)) pa_nil))))) pss_nil) (pss_cons (ps_if (pt_cmpR op_eq (pe_fldK K (pv 1) rfl) (pe_gi rfl T.g_OFF) (nomark _)) (pss_one (ps_ret (pe_fn F_take_part_off (hr.mono (by decide)) rfl (pa_cons (pv 0) (pa_cons (pe_ix (ix_listK K) (pv 2) pe_int (fun _ _=>rfl)) (pa_cons (pe_ix (ix_listK K) (pv 2) pe_int (fun _ _=>rfl)) pa_nil)))))) pss_nil) (pss_cons (ps_if (pt_cmpR op_eq (pe_fldK K (pv 1) rfl) (pe_gi rfl T.g_STRIP) (nomark _)) (pss_one (ps_ret (pe_fn F_strip_for (hr.mono (by decide)) rfl (pa_cons (pv 0) (pa_cons (pe_ix (ix_listK K) (pv 2) pe_int (fun _ _=>rfl)) (pa_cons (pe_ix (ix_listK K) (pv 2) pe_int (fun _ _=>rfl)) pa_nil)))))) pss_nil) (pss_cons (ps_if (pt_cmpR op_eq (pe_fldK K (pv 1) rfl) (pe_gi rfl T.g_GATHER) (nomark _)) (pss_one (ps_ret (pe_fn F_gather_parts (hr.mono (by decide)) rfl (pa_cons (pv 0) (pa_cons (pe_ix (ix_listK K) (pv 2) pe_int (fun _ _=>rfl)) (pa_cons (pe_ix (ix_listK K) (pv 2) pe_int (fun _ _=>rfl)) pa_nil)))))) pss_nil) (pss_cons (ps_if (pt_cmpR op_eq (pe_fldK K (pv 1) rfl) (pe_gi rfl T.g_SELL) (nomark _)) (pss_one (ps_ret (pe_fn F_sell_part (hr.mono (by decide)) rfl (pa_cons (pv 0) (pa_cons (pe_ix (ix_listK K) (pv 2) pe_int (fun _ _=>rfl)) (pa_cons (pe_ix (ix_listK K) (pv 2) pe_int (fun _ _=>rfl)) pa_nil)))))) pss_nil) (pss_cons (ps_if (pt_cmpR op_eq (pe_fldK K (pv 1) rfl) (pe_gi rfl T.g_CRUSH) (nomark _)) (pss_one (ps_ret (pe_fn F_crush_car (hr.mono (by decide)) rfl (pa_cons (pv 0) (pa_cons (pe_ix (ix_listK K) (pv 2) pe_int (fun _ _=>rfl)) pa_nil))))) pss_nil) (pss_cons (ps_if (pt_cmpR op_eq (pe_fldK K (pv 1) rfl) (pe_gi rfl T.g_CART) (nomark _)) (pss_one (ps_ret (pe_fn F_cart_scrap (hr.mono (by decide)) rfl (pa_cons (pv 0) (pa_cons (pe_ix (ix_listK K) (pv 2) pe_int (fun _ _=>rfl)) pa_nil))))) pss_nil) (pss_one (ps_ret (pe_fn F_pump_out (hr.mono (by decide)) rfl (pa_cons (pv 0) (pa_cons (pe_ix (ix_listK K) (pv 2) pe_int (fun _ _=>rfl)) (pa_cons (pe_ix (ix_listK K) (pv 2) pe_int (fun _ _=>rfl)) pa_nil))))))))))))))))),?_⟩
  cases x with
  | type_ a b c e =>
   have e0:((callGiven (.type_ a b c e)).map V.int)[0]?=some (iN a):=rfl
   have e1:((callGiven (.type_ a b c e)).map V.int)[1]?=some (iN b):=rfl
   have e2:((callGiven (.type_ a b c e)).map V.int)[2]?=some (iN c):=rfl
   have e3:((callGiven (.type_ a b c e)).map V.int)[3]?=some (iN e):=rfl
   walk_at "rd"
   walk_at "gx"
   exact ⟨less H A,A,y,a,b,c,e,rfl,hm,g,kS⟩
  | model a b q =>
   have e0:((callGiven (.model a b q)).map V.int)[0]?=some (iN a):=rfl
   have e1:((callGiven (.model a b q)).map V.int)[1]?=some (iN b):=rfl
   have er:H rw_=some (.lst (q.map iN)):=by rw [hrw];exact congrArg (fun l=>some (HO.lst l)) (iN_list q)
   have hne:rw_≠A.ml:=fun z=>by rw [z,hd.fm] at hr0;cases hr0
   walk_at "rd"
   walk_at "gx"
   exact ⟨less H A,A,y,a,b,rw_,q,rfl,hm,g,er,hne,hok,kS⟩
  | car a b =>
   have e0:((callGiven (.car a b)).map V.int)[0]?=some (iN a):=rfl
   have e1:((callGiven (.car a b)).map V.int)[1]?=some (iN b):=rfl
   walk_at "rd"
   walk_at "gx"
   exact ⟨less H A,A,y,a,b,rfl,hm,g,kS⟩
  | off_ a b =>
   have e0:((callGiven (.off_ a b)).map V.int)[0]?=some (iN a):=rfl
   have e1:((callGiven (.off_ a b)).map V.int)[1]?=some (iN b):=rfl
   walk_at "rd"
   walk_at "gx"
   exact ⟨less H A,A,y,a,b,rfl,hm,g,kS⟩
  | strip a b =>
   have e0:((callGiven (.strip a b)).map V.int)[0]?=some (iN a):=rfl
   have e1:((callGiven (.strip a b)).map V.int)[1]?=some (iN b):=rfl
   walk_at "rd"
   walk_at "gx"
   exact ⟨less H A,A,y,a,b,rfl,hm,g,kS⟩
  | sell a b =>
   have e0:((callGiven (.sell a b)).map V.int)[0]?=some (iN a):=rfl
   have e1:((callGiven (.sell a b)).map V.int)[1]?=some (iN b):=rfl
   walk_at "rd"
   walk_at "gx"
   exact ⟨less H A,A,y,a,b,rfl,hm,g,kS⟩
  | pump a b =>
   have e0:((callGiven (.pump a b)).map V.int)[0]?=some (iN a):=rfl
   have e1:((callGiven (.pump a b)).map V.int)[1]?=some (iN b):=rfl
   walk_at "rd"
   walk_at "gx"
   exact ⟨less H A,A,y,a,b,rfl,hm,g,kS⟩
  | drain a =>
   have e0:((callGiven (.drain a)).map V.int)[0]?=some (iN a):=rfl
   walk_at "rd"
   walk_at "gx"
   exact ⟨less H A,A,y,a,rfl,hm,g,kS⟩
  | crush a =>
   have e0:((callGiven (.crush a)).map V.int)[0]?=some (iN a):=rfl
   walk_at "rd"
   walk_at "gx"
   exact ⟨less H A,A,y,a,rfl,hm,g,kS⟩
  | cart a =>
   have e0:((callGiven (.cart a)).map V.int)[0]?=some (iN a):=rfl
   walk_at "rd"
   walk_at "gx"
   exact ⟨less H A,A,y,a,rfl,hm,g,kS⟩
  | gather_ a b =>
   have e0:((callGiven (.gather_ a b)).map V.int)[0]?=some (iN a):=rfl
   have e1:((callGiven (.gather_ a b)).map V.int)[1]?=some (iN b):=rfl
   walk_at "rd"
   walk_at "gx"
   exact ⟨H0,A,y,a,b,rfl,hd,g,hT,h0,kk⟩
  | _=>exact absurd hch (by simp [isChange,callNum,enc])
def isCarAsk (x:Km415.Call):Prop:=callNum x∈[13,14,15,16,24]
def isPartAsk (x:Km415.Call):Prop:=callNum x∈[12,17,18,19,20,21,22,23]
def isAccAsk (x:Km415.Call):Prop:=callNum x∈[25,26,27]
def sp_askOf (t:Adr) (p:Km415.Call→Prop):Sp:=fun vs H Q _=>∃A y c x,vs=[.ref A.a,.ref c]∧YardAt t H A y∧Good y∧CallAt t H c x∧p x∧AnsL H Q (askA y x)
def sp_askT (t:Adr) (Pt:Addr) (p:Km415.Call→Prop):Sp:=fun vs H Q _=>∃A y c x,vs=[.ref A.a,.ref c]∧YardAt t H A y∧Good y∧TabL H Pt∧CallAt t H c x∧p x∧AnsT Pt H Q (askA y x)
theorem ok_ask_of_car (F:Fun K "ask_of_car" "ask_of_car" s_ask_of_car f fd) (T:Txt K mg t) (F_ask_must:Fd P w K mg base "ask_must" 3 ["yard","k","t"] (sp_ask2 t .closure)) (F_ask_may:Fd P w K mg base "ask_may" 3 ["yard","k","t"] (sp_ask2 t .may)) (F_ask_next:Fd P w K mg base "ask_next" 3 ["yard","k"] (sp_ask1 t .next)) (F_ask_look:Fd P w K mg base "ask_look" 2 ["yard","k"] (sp_ask1 t .look)) (F_ask_harm:Fd P w K mg base "ask_harm" 3 ["yard","k"] (sp_ask1 t .harm)) :
  FnOk P w K mg base CX0 4 f fd ["yard","call"] (sp_askOf t isCarAsk):=by
 refine F.ok sc_ask_of_car (fun vs H Q E h=>?_) (fun cdv _ outer s H vs Q E hr h=>?_)
 ·obtain ⟨A,y,c,x,rfl,_⟩:=h;rfl
 ·obtain ⟨A,y,c,x,rfl,hy,g,hc,hp,kk⟩:=h
  have nd:=sc_ask_of_car.nd
  obtain ⟨dx,gv,rw_,hcx,hgv,hrw⟩:=hc
  refine ⟨_,(pss_cons (ps_set (i:=2) nd rfl (by walk_at "lo") (pe_fldK K (pv 1) rfl)) (pss_cons (ps_if (pt_cmpR op_eq (pe_fldK K (pv 1) rfl) (pe_gi rfl T.g_MUST) (nomark _)) (pss_one (ps_ret (pe_fn F_ask_must (hr.mono (by decide)) rfl (pa_cons (pv 0) (pa_cons (pe_ix (ix_listK K) (pv 2) pe_int (fun _ _=>rfl)) (pa_cons (pe_ix (ix_listK K) (pv 2) pe_int (fun _ _=>rfl)) pa_nil)))))) pss_nil) (pss_cons (ps_if (pt_cmpR op_eq (pe_fldK K (pv 1) rfl) (pe_gi rfl T.g_MAY) (nomark _)) (pss_one (ps_ret (pe_fn F_ask_may (hr.mono (by decide)) rfl (pa_cons (pv 0) (pa_cons (pe_ix (ix_listK K) (pv 2) pe_int (fun _ _=>rfl)) (pa_cons (pe_ix (ix_listK K) (pv 2) pe_int (fun _ _=>rfl)) pa_nil)))))) pss_nil) (pss_cons (ps_if (pt_cmpR op_eq (pe_fldK K (pv 1) rfl) (pe_gi rfl T.g_NEXT) (nomark _)) (pss_one (ps_ret (pe_fn F_ask_next (hr.mono (by decide)) rfl (pa_cons (pv 0) (pa_cons (pe_ix (ix_listK K) (pv 2) pe_int (fun _ _=>rfl)) pa_nil))))) pss_nil) (pss_cons (ps_if (pt_cmpR op_eq (pe_fldK K (pv 1) rfl) (pe_gi rfl T.g_LOOK) (nomark _)) (pss_one (ps_ret (pe_fn F_ask_look (hr.mono (by decide)) rfl (pa_cons (pv 0) (pa_cons (pe_ix (ix_listK K) (pv 2) pe_int (fun _ _=>rfl)) pa_nil))))) pss_nil) (pss_one (ps_ret (pe_fn F_ask_harm (hr.mono (by decide)) rfl (pa_cons (pv 0) (pa_cons (pe_ix (ix_listK K) (pv 2) pe_int (fun _ _=>rfl)) pa_nil)))))))))),?_⟩
  cases x with
  | closure a b =>
   have e0:((callGiven (.closure a b)).map V.int)[0]?=some (iN a):=rfl
   have e1:((callGiven (.closure a b)).map V.int)[1]?=some (iN b):=rfl
   walk_at "rd"
   walk_at "gx"
   exact ⟨A,y,a,b,rfl,hy,g,kk⟩
  | may a b =>
   have e0:((callGiven (.may a b)).map V.int)[0]?=some (iN a):=rfl
   have e1:((callGiven (.may a b)).map V.int)[1]?=some (iN b):=rfl
   walk_at "rd"
   walk_at "gx"
   exact ⟨A,y,a,b,rfl,hy,g,kk⟩
  | next a =>
   have e0:((callGiven (.next a)).map V.int)[0]?=some (iN a):=rfl
   walk_at "rd"
   walk_at "gx"
   exact ⟨A,y,a,rfl,hy,g,kk⟩
  | look a =>
   have e0:((callGiven (.look a)).map V.int)[0]?=some (iN a):=rfl
   walk_at "rd"
   walk_at "gx"
   exact ⟨A,y,a,rfl,hy,g,kk⟩
  | harm a =>
   have e0:((callGiven (.harm a)).map V.int)[0]?=some (iN a):=rfl
   walk_at "rd"
   walk_at "gx"
   exact ⟨A,y,a,rfl,hy,g,kk⟩
  | _=>exact absurd hp (by simp [isCarAsk,callNum,enc])
theorem ok_ask_of_parts {Pt:Addr} (F:Fun K "ask_of_parts" "ask_of_parts" s_ask_of_parts f fd) (T:Txt K mg t) (F_ask_fits:Fd P w K mg base "ask_fits" 2 ["yard","t","m","n"] (sp_ask3 t .fits)) (F_ask_find:Fd P w K mg base "ask_find" 3 ["yard","t","m"] (sp_ask2 t .find)) (F_ask_from:Fd P w K mg base "ask_from" 4 ["yard","t","m"] (sp_ask2 t .from_)) (F_ask_least:Fd P w K mg base "ask_least" 7 ["yard","m","wanted"] (sp_ask_least t Pt)) (F_ask_lacking:Fd P w K mg base "ask_lacking" 4 ["yard","m","wanted"] (sp_ask2 t .lacking)) (F_ask_part:Fd P w K mg base "ask_part" 2 ["yard","i"] (sp_ask1 t .part)) (F_ask_count:Fd P w K mg base "ask_count" 2 ["yard","t"] (sp_ask1 t .count)) (F_ask_alike:Fd P w K mg base "ask_alike" 2 ["yard","t"] (sp_ask1 t .alike)) :
  FnOk P w K mg base CX0 8 f fd ["yard","call"] (sp_askT t Pt isPartAsk):=by
 refine F.ok sc_ask_of_parts (fun vs H Q E h=>?_) (fun cdv _ outer s H vs Q E hr h=>?_)
 ·obtain ⟨A,y,c,x,rfl,_⟩:=h;rfl
 ·obtain ⟨A,y,c,x,rfl,hy,g,hT,hc,hp,kk⟩:=h
  have nd:=sc_ask_of_parts.nd
  obtain ⟨dx,gv,rw_,hcx,hgv,hrw⟩:=hc
  have kS:=AnsT.small kk hT
  refine ⟨_,(pss_cons (ps_set (i:=2) nd rfl (by walk_at "lo") (pe_fldK K (pv 1) rfl)) (pss_cons (ps_if (pt_cmpR op_eq (pe_fldK K (pv 1) rfl) (pe_gi rfl T.g_FITS) (nomark _)) (pss_one (ps_ret (pe_fn F_ask_fits (hr.mono (by decide)) rfl (pa_cons (pv 0) (pa_cons (pe_ix (ix_listK K) (pv 2) pe_int (fun _ _=>rfl)) (pa_cons (pe_ix (ix_listK K) (pv 2) pe_int (fun _ _=>rfl)) (pa_cons (pe_ix (ix_listK K) (pv 2) pe_int (fun _ _=>rfl)) pa_nil))))))) pss_nil) (pss_cons (ps_if (pt_cmpR op_eq (pe_fldK K (pv 1) rfl) (pe_gi rfl T.g_FIND) (nomark _)) (pss_one (ps_ret (pe_fn F_ask_find (hr.mono (by decide)) rfl (pa_cons (pv 0) (pa_cons (pe_ix (ix_listK K) (pv 2) pe_int (fun _ _=>rfl)) (pa_cons (pe_ix (ix_listK K) (pv 2) pe_int (fun _ _=>rfl)) pa_nil)))))) pss_nil) (pss_cons (ps_if (pt_cmpR op_eq (pe_fldK K (pv 1) rfl) (pe_gi rfl T.g_FROM) (nomark _)) (pss_one (ps_ret (pe_fn F_ask_from (hr.mono (by decide)) rfl (pa_cons (pv 0) (pa_cons (pe_ix (ix_listK K) (pv 2) pe_int (fun _ _=>rfl)) (pa_cons (pe_ix (ix_listK K) (pv 2) pe_int (fun _ _=>rfl)) pa_nil)))))) pss_nil) (pss_cons (ps_if (pt_cmpR op_eq (pe_fldK K (pv 1) rfl) (pe_gi rfl T.g_LEAST) (nomark _)) (pss_one (ps_ret (pe_fn F_ask_least (hr.mono (by decide)) rfl (pa_cons (pv 0) (pa_cons (pe_ix (ix_listK K) (pv 2) pe_int (fun _ _=>rfl)) (pa_cons (pe_ix (ix_listK K) (pv 2) pe_int (fun _ _=>rfl)) pa_nil)))))) pss_nil) (pss_cons (ps_if (pt_cmpR op_eq (pe_fldK K (pv 1) rfl) (pe_gi rfl T.g_LACKING) (nomark _)) (pss_one (ps_ret (pe_fn F_ask_lacking (hr.mono (by decide)) rfl (pa_cons (pv 0) (pa_cons (pe_ix (ix_listK K) (pv 2) pe_int (fun _ _=>rfl)) (pa_cons (pe_ix (ix_listK K) (pv 2) pe_int (fun _ _=>rfl)) pa_nil)))))) pss_nil) (pss_cons (ps_if (pt_cmpR op_eq (pe_fldK K (pv 1) rfl) (pe_gi rfl T.g_PART) (nomark _)) (pss_one (ps_ret (pe_fn F_ask_part (hr.mono (by decide)) rfl (pa_cons (pv 0) (pa_cons (pe_ix (ix_listK K) (pv 2) pe_int (fun _ _=>rfl)) pa_nil))))) pss_nil) (pss_cons (ps_if (pt_cmpR op_eq (pe_fldK K (pv 1) rfl) (pe_gi rfl T.g_COUNT) (nomark _)) (pss_one (ps_ret (pe_fn F_ask_count (hr.mono (by decide)) rfl (pa_cons (pv 0) (pa_cons (pe_ix (ix_listK K) (pv 2) pe_int (fun _ _=>rfl)) pa_nil))))) pss_nil) (pss_one (ps_ret (pe_fn F_ask_alike (hr.mono (by decide)) rfl (pa_cons (pv 0) (pa_cons (pe_ix (ix_listK K) (pv 2) pe_int (fun _ _=>rfl)) pa_nil))))))))))))),?_⟩
  cases x with
  | fits a b c =>
   have e0:((callGiven (.fits a b c)).map V.int)[0]?=some (iN a):=rfl
   have e1:((callGiven (.fits a b c)).map V.int)[1]?=some (iN b):=rfl
   have e2:((callGiven (.fits a b c)).map V.int)[2]?=some (iN c):=rfl
   walk_at "rd"
   walk_at "gx"
   exact ⟨A,y,a,b,c,rfl,hy,g,kS⟩
  | find a b =>
   have e0:((callGiven (.find a b)).map V.int)[0]?=some (iN a):=rfl
   have e1:((callGiven (.find a b)).map V.int)[1]?=some (iN b):=rfl
   walk_at "rd"
   walk_at "gx"
   exact ⟨A,y,a,b,rfl,hy,g,kS⟩
  | from_ a b =>
   have e0:((callGiven (.from_ a b)).map V.int)[0]?=some (iN a):=rfl
   have e1:((callGiven (.from_ a b)).map V.int)[1]?=some (iN b):=rfl
   walk_at "rd"
   walk_at "gx"
   exact ⟨A,y,a,b,rfl,hy,g,kS⟩
  | gather a b =>
   have e0:((callGiven (.gather a b)).map V.int)[0]?=some (iN a):=rfl
   have e1:((callGiven (.gather a b)).map V.int)[1]?=some (iN b):=rfl
   walk_at "rd"
   walk_at "gx"
   exact ⟨A,y,a,b,rfl,hy,g,hT,kk⟩
  | lacking a b =>
   have e0:((callGiven (.lacking a b)).map V.int)[0]?=some (iN a):=rfl
   have e1:((callGiven (.lacking a b)).map V.int)[1]?=some (iN b):=rfl
   walk_at "rd"
   walk_at "gx"
   exact ⟨A,y,a,b,rfl,hy,g,kS⟩
  | part a =>
   have e0:((callGiven (.part a)).map V.int)[0]?=some (iN a):=rfl
   walk_at "rd"
   walk_at "gx"
   exact ⟨A,y,a,rfl,hy,g,kS⟩
  | count a =>
   have e0:((callGiven (.count a)).map V.int)[0]?=some (iN a):=rfl
   walk_at "rd"
   walk_at "gx"
   exact ⟨A,y,a,rfl,hy,g,kS⟩
  | alike a =>
   have e0:((callGiven (.alike a)).map V.int)[0]?=some (iN a):=rfl
   walk_at "rd"
   walk_at "gx"
   exact ⟨A,y,a,rfl,hy,g,kS⟩
  | _=>exact absurd hp (by simp [isPartAsk,callNum,enc])
theorem ok_ask_of_accounts (F:Fun K "ask_of_accounts" "ask_of_accounts" s_ask_of_accounts f fd) (T:Txt K mg t) (F_ask_weights:Fd P w K mg base "ask_weights" 2 ["yard"] (sp_ask0 t .weights)) (F_ask_litres:Fd P w K mg base "ask_litres" 1 ["yard"] (sp_ask0 t .litres)) (F_ask_money:Fd P w K mg base "ask_money" 1 ["yard"] (sp_ask0 t .money)) :
  FnOk P w K mg base CX0 3 f fd ["yard","call"] (sp_askOf t isAccAsk):=by
 refine F.ok sc_ask_of_accounts (fun vs H Q E h=>?_) (fun cdv _ outer s H vs Q E hr h=>?_)
 ·obtain ⟨A,y,c,x,rfl,_⟩:=h;rfl
 ·obtain ⟨A,y,c,x,rfl,hy,g,hc,hp,kk⟩:=h
  have nd:=sc_ask_of_accounts.nd
  obtain ⟨dx,gv,rw_,hcx,hgv,hrw⟩:=hc
  refine ⟨_,(pss_cons (ps_if (pt_cmpR op_eq (pe_fldK K (pv 1) rfl) (pe_gi rfl T.g_WEIGHTS) (nomark _)) (pss_one (ps_ret (pe_fn F_ask_weights (hr.mono (by decide)) rfl (pa_cons (pv 0) pa_nil)))) pss_nil) (pss_cons (ps_if (pt_cmpR op_eq (pe_fldK K (pv 1) rfl) (pe_gi rfl T.g_LITRES) (nomark _)) (pss_one (ps_ret (pe_fn F_ask_litres (hr.mono (by decide)) rfl (pa_cons (pv 0) pa_nil)))) pss_nil) (pss_one (ps_ret (pe_fn F_ask_money (hr.mono (by decide)) rfl (pa_cons (pv 0) pa_nil)))))),?_⟩
  cases x with
  | weights =>
   walk_at "rd"
   exact ⟨A,y,rfl,hy,g,kk⟩
  | litres =>
   walk_at "rd"
   exact ⟨A,y,rfl,hy,g,kk⟩
  | money =>
   walk_at "rd"
   exact ⟨A,y,rfl,hy,g,kk⟩
  | _=>exact absurd hp (by simp [isAccAsk,callNum,enc])
def isAsk (x:Km415.Call):Prop:=12≤callNum x∧callNum x≤27
theorem ok_ask {Pt:Addr} (F:Fun K "ask" "ask" s_ask f fd) (T:Txt K mg t) (F_ask_of_car:Fd P w K mg base "ask_of_car" 4 ["yard","call"] (sp_askOf t isCarAsk)) (F_ask_of_parts:Fd P w K mg base "ask_of_parts" 8 ["yard","call"] (sp_askT t Pt isPartAsk)) (F_ask_of_accounts:Fd P w K mg base "ask_of_accounts" 3 ["yard","call"] (sp_askOf t isAccAsk)) :
  FnOk P w K mg base CX0 9 f fd ["yard","call"] (sp_askT t Pt isAsk):=by
 refine F.ok sc_ask (fun vs H Q E h=>?_) (fun cdv _ outer s H vs Q E hr h=>?_)
 ·obtain ⟨A,y,c,x,rfl,_⟩:=h;rfl
 ·obtain ⟨A,y,c,x,rfl,hy,g,hT,hc,hp,kk⟩:=h
  have nd:=sc_ask.nd
  have hc0:=hc
  obtain ⟨dx,gv,rw_,hcx,hgv,hrw⟩:=hc
  refine ⟨_,(pss_cons (ps_if (pt_cmpR (op_in_seqK K) (pe_fldK K (pv 1) rfl) (pe_tup (pa_cons (pe_gi rfl T.g_MUST) (pa_cons (pe_gi rfl T.g_MAY) (pa_cons (pe_gi rfl T.g_NEXT) (pa_cons (pe_gi rfl T.g_LOOK) (pa_cons (pe_gi rfl T.g_HARM) pa_nil)))))) (by with_unfolding_all rfl)) (pss_one (ps_ret (pe_fn F_ask_of_car (hr.mono (by decide)) rfl (pa_cons (pv 0) (pa_cons (pv 1) pa_nil))))) pss_nil) (pss_cons (ps_if (pt_cmpR (op_in_seqK K) (pe_fldK K (pv 1) rfl) (pe_tup (pa_cons (pe_gi rfl T.g_WEIGHTS) (pa_cons (pe_gi rfl T.g_LITRES) (pa_cons (pe_gi rfl T.g_MONEY) pa_nil)))) (by with_unfolding_all rfl)) (pss_one (ps_ret (pe_fn F_ask_of_accounts (hr.mono (by decide)) rfl (pa_cons (pv 0) (pa_cons (pv 1) pa_nil))))) pss_nil) (pss_one (ps_ret (pe_fn F_ask_of_parts (hr.mono (by decide)) rfl (pa_cons (pv 0) (pa_cons (pv 1) pa_nil))))))),?_⟩
  have up:∀{H1:Hp},Same H H1→AnsT Pt H1 Q (askA y x):=fun s1 H' p kp hT' hp' hl=>kk H' p ((Keep.same s1).trans kp) hT' (s1.free hp') hl
  walk_at "rd"
  refine ⟨by show 5≤sizeLine;decide,fun p1 hp1=>?_⟩
  have s1:Same H (upd H p1 (.tup [.int 13,.int 14,.int 15,.int 16,.int 24])):=same_new hp1
  refine ⟨p1,_,rfl,.inr (SqT.of upd_same),rfl,rfl,_,rfl,?_⟩
  generalize upd H p1 (.tup [.int 13,.int 14,.int 15,.int 16,.int 24])=H1 at s1
  have hy1:=hy.same s1
  have hc1:=hc0.same s1
  have hT1:=hT.same s1
  have hcx1:=s1 _ _ hcx
  cases x with
  | closure a b =>
   refine iteTc rfl ?_
   walk_at "rd"
   exact ⟨A,y,c,_,rfl,hy1,g,hc1,by simp [isCarAsk,callNum,enc],(up s1).small hT1⟩
  | may a b =>
   refine iteTc rfl ?_
   walk_at "rd"
   exact ⟨A,y,c,_,rfl,hy1,g,hc1,by simp [isCarAsk,callNum,enc],(up s1).small hT1⟩
  | next a =>
   refine iteTc rfl ?_
   walk_at "rd"
   exact ⟨A,y,c,_,rfl,hy1,g,hc1,by simp [isCarAsk,callNum,enc],(up s1).small hT1⟩
  | look a =>
   refine iteTc rfl ?_
   walk_at "rd"
   exact ⟨A,y,c,_,rfl,hy1,g,hc1,by simp [isCarAsk,callNum,enc],(up s1).small hT1⟩
  | harm a =>
   refine iteTc rfl ?_
   walk_at "rd"
   exact ⟨A,y,c,_,rfl,hy1,g,hc1,by simp [isCarAsk,callNum,enc],(up s1).small hT1⟩
  | fits a b e =>
   refine iteFc rfl ?_
   walk_at "rd"
   refine ⟨by show 3≤sizeLine;decide,fun p2 hp2=>?_⟩
   have s2:Same H (upd H1 p2 (.tup [.int 25,.int 26,.int 27])):=s1.trans (same_new hp2)
   refine ⟨p2,_,rfl,.inr (SqT.of upd_same),rfl,rfl,_,rfl,?_⟩
   generalize upd H1 p2 (.tup [.int 25,.int 26,.int 27])=H2 at s2
   refine iteFc rfl ?_
   walk_at "rd"
   exact ⟨A,y,c,_,rfl,hy.same s2,g,hT.same s2,hc0.same s2,by simp [isPartAsk,callNum,enc],up s2⟩
  | find a b =>
   refine iteFc rfl ?_
   walk_at "rd"
   refine ⟨by show 3≤sizeLine;decide,fun p2 hp2=>?_⟩
   have s2:Same H (upd H1 p2 (.tup [.int 25,.int 26,.int 27])):=s1.trans (same_new hp2)
   refine ⟨p2,_,rfl,.inr (SqT.of upd_same),rfl,rfl,_,rfl,?_⟩
   generalize upd H1 p2 (.tup [.int 25,.int 26,.int 27])=H2 at s2
   refine iteFc rfl ?_
   walk_at "rd"
   exact ⟨A,y,c,_,rfl,hy.same s2,g,hT.same s2,hc0.same s2,by simp [isPartAsk,callNum,enc],up s2⟩
  | from_ a b =>
   refine iteFc rfl ?_
   walk_at "rd"
   refine ⟨by show 3≤sizeLine;decide,fun p2 hp2=>?_⟩
   have s2:Same H (upd H1 p2 (.tup [.int 25,.int 26,.int 27])):=s1.trans (same_new hp2)
   refine ⟨p2,_,rfl,.inr (SqT.of upd_same),rfl,rfl,_,rfl,?_⟩
   generalize upd H1 p2 (.tup [.int 25,.int 26,.int 27])=H2 at s2
   refine iteFc rfl ?_
   walk_at "rd"
   exact ⟨A,y,c,_,rfl,hy.same s2,g,hT.same s2,hc0.same s2,by simp [isPartAsk,callNum,enc],up s2⟩
  | gather a b =>
   refine iteFc rfl ?_
   walk_at "rd"
   refine ⟨by show 3≤sizeLine;decide,fun p2 hp2=>?_⟩
   have s2:Same H (upd H1 p2 (.tup [.int 25,.int 26,.int 27])):=s1.trans (same_new hp2)
   refine ⟨p2,_,rfl,.inr (SqT.of upd_same),rfl,rfl,_,rfl,?_⟩
   generalize upd H1 p2 (.tup [.int 25,.int 26,.int 27])=H2 at s2
   refine iteFc rfl ?_
   walk_at "rd"
   exact ⟨A,y,c,_,rfl,hy.same s2,g,hT.same s2,hc0.same s2,by simp [isPartAsk,callNum,enc],up s2⟩
  | lacking a b =>
   refine iteFc rfl ?_
   walk_at "rd"
   refine ⟨by show 3≤sizeLine;decide,fun p2 hp2=>?_⟩
   have s2:Same H (upd H1 p2 (.tup [.int 25,.int 26,.int 27])):=s1.trans (same_new hp2)
   refine ⟨p2,_,rfl,.inr (SqT.of upd_same),rfl,rfl,_,rfl,?_⟩
   generalize upd H1 p2 (.tup [.int 25,.int 26,.int 27])=H2 at s2
   refine iteFc rfl ?_
   walk_at "rd"
   exact ⟨A,y,c,_,rfl,hy.same s2,g,hT.same s2,hc0.same s2,by simp [isPartAsk,callNum,enc],up s2⟩
  | part a =>
   refine iteFc rfl ?_
   walk_at "rd"
   refine ⟨by show 3≤sizeLine;decide,fun p2 hp2=>?_⟩
   have s2:Same H (upd H1 p2 (.tup [.int 25,.int 26,.int 27])):=s1.trans (same_new hp2)
   refine ⟨p2,_,rfl,.inr (SqT.of upd_same),rfl,rfl,_,rfl,?_⟩
   generalize upd H1 p2 (.tup [.int 25,.int 26,.int 27])=H2 at s2
   refine iteFc rfl ?_
   walk_at "rd"
   exact ⟨A,y,c,_,rfl,hy.same s2,g,hT.same s2,hc0.same s2,by simp [isPartAsk,callNum,enc],up s2⟩
  | count a =>
   refine iteFc rfl ?_
   walk_at "rd"
   refine ⟨by show 3≤sizeLine;decide,fun p2 hp2=>?_⟩
   have s2:Same H (upd H1 p2 (.tup [.int 25,.int 26,.int 27])):=s1.trans (same_new hp2)
   refine ⟨p2,_,rfl,.inr (SqT.of upd_same),rfl,rfl,_,rfl,?_⟩
   generalize upd H1 p2 (.tup [.int 25,.int 26,.int 27])=H2 at s2
   refine iteFc rfl ?_
   walk_at "rd"
   exact ⟨A,y,c,_,rfl,hy.same s2,g,hT.same s2,hc0.same s2,by simp [isPartAsk,callNum,enc],up s2⟩
  | alike a =>
   refine iteFc rfl ?_
   walk_at "rd"
   refine ⟨by show 3≤sizeLine;decide,fun p2 hp2=>?_⟩
   have s2:Same H (upd H1 p2 (.tup [.int 25,.int 26,.int 27])):=s1.trans (same_new hp2)
   refine ⟨p2,_,rfl,.inr (SqT.of upd_same),rfl,rfl,_,rfl,?_⟩
   generalize upd H1 p2 (.tup [.int 25,.int 26,.int 27])=H2 at s2
   refine iteFc rfl ?_
   walk_at "rd"
   exact ⟨A,y,c,_,rfl,hy.same s2,g,hT.same s2,hc0.same s2,by simp [isPartAsk,callNum,enc],up s2⟩
  | weights =>
   refine iteFc rfl ?_
   walk_at "rd"
   refine ⟨by show 3≤sizeLine;decide,fun p2 hp2=>?_⟩
   have s2:Same H (upd H1 p2 (.tup [.int 25,.int 26,.int 27])):=s1.trans (same_new hp2)
   refine ⟨p2,_,rfl,.inr (SqT.of upd_same),rfl,rfl,_,rfl,?_⟩
   generalize upd H1 p2 (.tup [.int 25,.int 26,.int 27])=H2 at s2
   refine iteTc rfl ?_
   walk_at "rd"
   exact ⟨A,y,c,_,rfl,hy.same s2,g,hc0.same s2,by simp [isAccAsk,callNum,enc],(up s2).small (hT.same s2)⟩
  | litres =>
   refine iteFc rfl ?_
   walk_at "rd"
   refine ⟨by show 3≤sizeLine;decide,fun p2 hp2=>?_⟩
   have s2:Same H (upd H1 p2 (.tup [.int 25,.int 26,.int 27])):=s1.trans (same_new hp2)
   refine ⟨p2,_,rfl,.inr (SqT.of upd_same),rfl,rfl,_,rfl,?_⟩
   generalize upd H1 p2 (.tup [.int 25,.int 26,.int 27])=H2 at s2
   refine iteTc rfl ?_
   walk_at "rd"
   exact ⟨A,y,c,_,rfl,hy.same s2,g,hc0.same s2,by simp [isAccAsk,callNum,enc],(up s2).small (hT.same s2)⟩
  | money =>
   refine iteFc rfl ?_
   walk_at "rd"
   refine ⟨by show 3≤sizeLine;decide,fun p2 hp2=>?_⟩
   have s2:Same H (upd H1 p2 (.tup [.int 25,.int 26,.int 27])):=s1.trans (same_new hp2)
   refine ⟨p2,_,rfl,.inr (SqT.of upd_same),rfl,rfl,_,rfl,?_⟩
   generalize upd H1 p2 (.tup [.int 25,.int 26,.int 27])=H2 at s2
   refine iteTc rfl ?_
   walk_at "rd"
   exact ⟨A,y,c,_,rfl,hy.same s2,g,hc0.same s2,by simp [isAccAsk,callNum,enc],(up s2).small (hT.same s2)⟩
  | _=>exact absurd hp (by simp [isAsk,callNum,enc])
end
end Y58
namespace Y58
open PySem PySem.Spec PyProof.Rows L2
abbrev s_answer_change:Stmt:=top 144
theorem sc_answer_change:FnScope ["record","call","draft","answered"] ["record","call"] (defScope s_answer_change):=by walk_at "sc"
abbrev s_answer:Stmt:=top 145
theorem sc_answer:FnScope ["record","call"] ["record","call"] (defScope s_answer):=by walk_at "sc"
section
variable {P:Program} {w:World} {K:PySem.W.Frag} {mg:Str→Option Value} {base:Heap} {t:Adr} {f:Addr} {fd:FuncData}
def Agree (d:Km415.Desk) (r:Int×Option Km415.Yard) (a:Km415.Desk×Km415.Ans):Prop:=(r.2=none∧r.1 < 0∧a=(d,Km415.only r.1))∨∃y',r.2=some y'∧0≤r.1∧a=(d.become y',Km415.only r.1)
theorem agree_no {d:Km415.Desk} {v:Int} (h:v < 0):Agree d (v,none) (d,Km415.only v):=.inl ⟨rfl,h,rfl⟩
theorem agree_yes {d:Km415.Desk} {n:Nat} {y:Km415.Yard}:Agree d ((n:Int),some y) (d.become y,Km415.only (n:Int)):=.inr ⟨y,rfl,Int.natCast_nonneg _,rfl⟩
theorem agree_if {d:Km415.Desk} {c:Prop} [Decidable c] {r r':Int×Option Km415.Yard} {a a':Km415.Desk×Km415.Ans} (h1:Agree d r a) (h2:Agree d r' a'):Agree d (if c then r else r') (if c then a else a'):=by
 split
 ·exact h1
 ·exact h2
local macro_rules | `(tactic| walk_at "agr")=>`(tactic| repeat' (first | exact agree_yes | refine agree_if ?_ ?_ | (refine agree_no ?_;decide)))
theorem change_act (d:Km415.Desk) (x:Km415.Call) (h:isChange x):Agree d (changeR d.now x) (Km415.act d x):=by
 cases x with
 | type_ a b c e=>walk_at "agr"
 | model a b q=>walk_at "agr"
 | car a b =>
  show Agree d (addCarR d.now a b) _
  unfold addCarR Km415.act
  dsimp only
  cases d.now.models[a]? with
  | none=>walk_at "agr"
  | some z=>walk_at "agr"
 | drain a =>
  show Agree d (drainR d.now a) _
  unfold drainR Km415.act
  dsimp only
  cases d.now.live a with
  | none=>walk_at "agr"
  | some z=>walk_at "agr"
 | off_ a b =>
  show Agree d (offR d.now a b) _
  unfold offR Km415.act
  dsimp only
  cases d.now.live a with
  | none=>walk_at "agr"
  | some z=>walk_at "agr"
 | strip a b =>
  show Agree d (stripR d.now a b) _
  unfold stripR Km415.act
  dsimp only
  cases d.now.live a with
  | none=>walk_at "agr"
  | some z=>walk_at "agr"
 | gather_ a b =>
  show Agree d (gatherR d.now a b) _
  unfold gatherR Km415.act
  dsimp only
  refine agree_if ?_ (agree_if ?_ ?_)
  ·walk_at "agr"
  ·walk_at "agr"
  cases d.now.gather a b with
  | none=>walk_at "agr"
  | some z =>
   obtain ⟨v,l⟩:=z
   walk_at "agr"
 | sell a b =>
  show Agree d (sellR d.now a b) _
  unfold sellR Km415.act
  dsimp only
  cases d.now.stock.getD a none with
  | none=>walk_at "agr"
  | some z=>walk_at "agr"
 | crush a =>
  show Agree d (crushR d.now a) _
  unfold crushR Km415.act
  dsimp only
  cases d.now.live a with
  | none=>walk_at "agr"
  | some z=>walk_at "agr"
 | cart a=>walk_at "agr"
 | pump a b=>walk_at "agr"
 | _=>exact absurd h (by simp [isChange,callNum,enc])
theorem ask_act (d:Km415.Desk) (x:Km415.Call) (h:isAsk x):Km415.act d x=(d,askA d.now x):=by
 cases x <;> first | rfl | exact absurd h (by simp [isAsk,callNum,enc])
theorem kindOf (x:Km415.Call):x=.start∨isChange x∨x=.back∨x=.again∨x=.state∨isAsk x:=by
 cases x
 case start=>exact .inl rfl
 case back=>exact .inr (.inr (.inl rfl))
 case again=>exact .inr (.inr (.inr (.inl rfl)))
 case state=>exact .inr (.inr (.inr (.inr (.inl rfl))))
 case type_ | model | car | drain | off_ | strip | gather_ | sell | crush | cart | pump=>exact .inr (.inl (by simp [isChange,callNum,enc]))
 all_goals exact .inr (.inr (.inr (.inr (.inr (by simp [isAsk,callNum,enc])))))
def FrT (Pt:Addr) (R R':RA) (H H':Hp):Prop:=∀b o,H b=some o→b≠Pt→b ∉ recOwn R→b ∉ recOwn R'∧H' b=some o
def AnsR (t:Adr) (Pt:Addr) (R:RA) (d:Km415.Desk) (H:Hp) (Q:VK) (x:Km415.Call):Prop :=
 ∀H' R' q,R'.a=R.a→RecAt t H' R' (Km415.act d x).1→TabL H' Pt→FrT Pt R R' H H'→(∀b o,H b=some o→b ∉ recOwn R→b≠q)→H' q=some (.lst (told (Km415.act d x).2))→Q (.ref q) H'
def sp_ans (t:Adr) (Pt:Addr) (p:Km415.Call→Prop):Sp:=fun vs H Q _=>∃R d c x,vs=[.ref R.a,.ref c]∧RecAt t H R d∧GoodD d∧TabL H Pt∧CallAt t H c x∧CallOk x∧p x∧AnsR t Pt R d H Q x
theorem AnsR.fin {Pt:Addr} {R R':RA} {d:Km415.Desk} {H H1:Hp} {Q:VK} {x:Km415.Call} {q:Addr} {vs:List V} (k:AnsR t Pt R d H Q x) (ea:R'.a=R.a) (hR:RecAt t H1 R' (Km415.act d x).1) (hT0:TabL H Pt) (hT:TabL H1 Pt) (fr:FrT Pt R R' H H1) (hq:H1 q=none) (e:told (Km415.act d x).2=vs):Q (.ref q) (upd H1 q (.lst vs)):=by
 refine k _ R' q ea (hR.same (same_new hq)) (hT.same (same_new hq)) (fun b o hb hP hn=>⟨(fr b o hb hP hn).1,same_new hq _ _ (fr b o hb hP hn).2⟩) (fun b o hb hn z=>?_) (by rw [upd_same,e])
 subst z
 by_cases hP:b=Pt
 ·subst hP
  obtain ⟨ps,h1⟩:=hT.there
  rw [h1] at hq;cases hq
 ·rw [(fr b o hb hP hn).2] at hq;cases hq
theorem FrS.toT {Pt:Addr} {R R':RA} {H H':Hp} (h:FrS R R' H H'):FrT Pt R R' H H':=fun b o hb _ hn=>h b o hb hn
def minus (H:Hp) (Pt:Addr):Hp:=fun b=>if b=Pt then none else H b
theorem minus_at {H:Hp} {Pt b:Addr} (n:b≠Pt):minus H Pt b=H b:=if_neg n
theorem minus_none {H:Hp} {Pt b:Addr} (h:H b=none):minus H Pt b=none:=by
 unfold minus
 split
 ·rfl
 ·exact h
theorem Draft.minus {H H':Hp} {A:YA} {y:Km415.Yard} (h:Draft t H H' A y) (Pt:Addr):Draft t (Y58.minus H Pt) H' A y :=
 ⟨h.at_,fun b o e=>by
  by_cases z:b=Pt
  ·rw [z] at e;unfold Y58.minus at e;rw [if_pos rfl] at e;cases e
  ·rw [minus_at z] at e;exact h.same b o e,minus_none h.fa,minus_none h.fk,minus_none h.fm,minus_none h.fc,minus_none h.fs,fun b hb=>minus_none (h.fcs b hb),h.ap⟩
theorem keep_minus {H H':Hp} {Pt:Addr} (s:Same (Y58.minus H Pt) H'):Keep Pt H H':=fun b o e n=>s b o (by rw [minus_at n];exact e)
theorem Draft.lists_out {H0 H:Hp} {A:YA} {y:Km415.Yard} (h:Draft t H0 H A y) {b:Addr} {o:HO} (hb:H0 b=some o):b ∉ lists A:=fun q=>by
 simp only [lists,List.mem_cons,List.not_mem_nil,or_false] at q
 rcases q with q | q | q | q
 ·rw [q,h.fk] at hb;cases hb
 ·rw [q,h.fm] at hb;cases hb
 ·rw [q,h.fc] at hb;cases hb
 ·rw [q,h.fs] at hb;cases hb
theorem ok_answer_change {Pt:Addr} (F:Fun K "answer_change" "answer_change" s_answer_change f fd) (T:Txt K mg t) (F_copied_yard:Fd P w K mg base "copied_yard" 4 ["yard"] (sp_copied_yard t)) (F_change:Fd P w K mg base "change" 8 ["yard","call"] (sp_change t Pt)) (F_keep_change:Fd P w K mg base "keep_change" 1 ["record","draft"] (sp_keep_change t)) :
  FnOk P w K mg base CX0 9 f fd ["record","call"] (sp_ans t Pt isChange):=by
 refine F.ok sc_answer_change (fun vs H Q E h=>?_) (fun cdv _ outer s H vs Q E hr h=>?_)
 ·obtain ⟨R,d,c,x,rfl,_⟩:=h;rfl
 ·obtain ⟨R,d,c,x,rfl,hR,gd,hT,hc,hok,hch,kk⟩:=h
  have nd:=sc_answer_change.nd
  obtain ⟨dx,hx⟩:=hR.me
  obtain ⟨psT,hPt⟩:=hT.there
  obtain ⟨dc,gv,rv,hcx,hgv,hrv⟩:=hc
  have nP:∀{b:Addr} {o:HO},H b=some o→(∀k,o≠.tbl k)→b≠Pt:=fun q n=>ne_tb q hPt n
  refine ⟨_,(pss_cons (ps_set (i:=2) nd rfl (by walk_at "lo") (pe_fn F_copied_yard (hr.mono (by decide)) rfl (pa_cons (pe_fldK K (pv 0) rfl) pa_nil))) (pss_cons (ps_set (i:=3) nd rfl (by walk_at "lo") (pe_fn F_change (hr.mono (by decide)) rfl (pa_cons (pv 2) (pa_cons (pv 1) pa_nil)))) (pss_cons (ps_if (pt_cmpR op_ge (pv 3) pe_int (nomark _)) (pss_one (ps_expr (pe_fn F_keep_change (hr.mono (by decide)) rfl (pa_cons (pv 0) (pa_cons (pv 2) pa_nil))))) pss_nil) (pss_one (ps_ret (pe_lst (pa_cons (pv 3) pa_nil))))))),?_⟩
  walk_at "rd"
  refine ⟨R.now,d.now,rfl,hR.now,gd.now,fun H1 A1 hd1=>?_⟩
  have hd1':=hd1.minus Pt
  have hcm:CallAt t (minus H Pt) c x:=⟨dc,gv,rv,by rw [minus_at (nP hcx (by intro k z;cases z))];exact hcx,by rw [minus_at (nP hgv (by intro k z;cases z))];exact hgv,by rw [minus_at (nP hrv (by intro k z;cases z))];exact hrv⟩
  walk_at "rd"
  refine ⟨minus H Pt,A1,d.now,c,x,rfl,hd1',gd.now,hT.same hd1.same,if_pos rfl,hcm,hok,hch,fun H2 e2 s2 hT2=>?_,fun H2 A2 y2 e2 hd2 ea hT2=>?_⟩
  ·
   rcases change_act d x hch with ⟨_,hneg,hact⟩ | ⟨y',hs,_⟩
   ·walk_at "rd"
    show if decide ((0:Int)≤(changeR d.now x).1)=true then _ else _
    rw [decide_eq_false (by omega)]
    refine iteF ?_
    walk_at "rd"
    refine ⟨by show 1≤sizeLine;decide,fun q hq=>?_⟩
    have kp:=keep_minus s2
    refine kk.fin (R':=R) rfl ?_ hT hT2 (fun b o hb hP hn=>⟨hn,kp b o hb hP⟩) hq ?_
    ·rw [hact];exact hR.keepT hPt kp
    ·rw [hact];rfl
   ·rw [e2] at hs;cases hs
  ·rcases change_act d x hch with ⟨hs,_⟩ | ⟨y',hs,hpos,hact⟩
   ·rw [e2] at hs;cases hs
   ·have ey:y2=y':=Option.some.inj (e2.symm.trans hs)
    subst ey
    walk_at "rd"
    show if decide ((0:Int)≤(changeR d.now x).1)=true then _ else _
    rw [decide_eq_true hpos]
    refine iteT ?_
    have kp:=keep_minus hd2.same
    have hR2:=hR.keepT hPt kp
    have inM:∀{b:Addr} {o:HO},H b=some o→b≠Pt→minus H Pt b=some o:=fun q n=>by rw [minus_at n];exact q
    walk_at "rd"
    refine ⟨R,d,A2,y2,by rw [ea];rfl,hR2,gd.len,hd2.at_,hd2.lists_out (inM hR.el (nP hR.el (by intro k z;cases z))),hd2.lists_out (inM hR.ll (nP hR.ll (by intro k z;cases z))),fun H3 R3 ea3 hR3 fr3=>?_⟩
    have fr:FrT Pt R R3 H H3:=fun b o hb hP hn=>fr3 b o (kp b o hb hP) hn (hd2.lists_out (inM hb hP))
    have out2:∀{b:Addr} {o:HO},H2 b=some o→(∀xs,o≠.lst xs)→b ∉ lists A2:=fun q n z=>by
     simp only [lists,List.mem_cons,List.not_mem_nil,or_false] at z
     rcases z with z | z | z | z
     ·rw [z,hd2.at_.kl] at q;exact n _ (Option.some.inj q).symm
     ·rw [z,hd2.at_.ml] at q;exact n _ (Option.some.inj q).symm
     ·rw [z,hd2.at_.cl] at q;exact n _ (Option.some.inj q).symm
     ·rw [z,hd2.at_.sl] at q;exact n _ (Option.some.inj q).symm
    have hT3:TabL H3 Pt:=by
     rcases hT2 with q | ⟨c',q1,q2⟩
     ·exact .inl (fr3 _ _ q (hR2.tab_out q) (out2 q (by intro k z;cases z))).2
     ·refine .inr ⟨c',(fr3 _ _ q1 (hR2.tab_out q1) (out2 q1 (by intro k z;cases z))).2,(fr3 _ _ q2 (fun z=>?_) (out2 q2 (by intro k z;cases z))).2⟩
      obtain ⟨o,ho,n⟩:=hR2.there z
      rw [q2] at ho
      cases ho
      exact n _ rfl
    walk_at "rd"
    refine ⟨by show 1≤sizeLine;decide,fun q hq=>?_⟩
    refine kk.fin (R':=R3) ea3 ?_ hT hT3 fr hq ?_
    ·rw [hact];exact hR3
    ·rw [hact];rfl
theorem dec_ne {a b:Int} (h:a≠b):decide (V.int a=V.int b)=false:=by rw [dec_int];exact beq_eq_false_iff_ne.mpr h
theorem ok_answer {Pt:Addr} (F:Fun K "answer" "answer" s_answer f fd) (T:Txt K mg t) (F_begin_anew:Fd P w K mg base "begin_anew" 3 ["record"] (sp_begin_anew t)) (F_answer_change:Fd P w K mg base "answer_change" 9 ["record","call"] (sp_ans t Pt isChange))
  (F_take_back:Fd P w K mg base "take_back" 1 ["record"] (sp_hist t .back)) (F_do_again:Fd P w K mg base "do_again" 1 ["record"] (sp_hist t .again)) (F_ask_state:Fd P w K mg base "ask_state" 2 ["record"] (fun vs H Q _=>∃R d,vs=[.ref R.a]∧RecAt t H R d∧GoodD d∧AnsL H Q (Km415.act d .state).2))
  (F_ask:Fd P w K mg base "ask" 9 ["yard","call"] (sp_askT t Pt isAsk)):FnOk P w K mg base CX0 10 f fd ["record","call"] (sp_ans t Pt fun _=>True):=by
 refine F.ok sc_answer (fun vs H Q E h=>?_) (fun cdv _ outer s H vs Q E hr h=>?_)
 ·obtain ⟨R,d,c,x,rfl,_⟩:=h;rfl
 ·obtain ⟨R,d,c,x,rfl,hR,gd,hT,hc,hok,_,kk⟩:=h
  have nd:=sc_answer.nd
  obtain ⟨dx,hx⟩:=hR.me
  obtain ⟨psT,hPt⟩:=hT.there
  have hc0:=hc
  obtain ⟨dc,gv,rv,hcx,hgv,hrv⟩:=hc
  refine ⟨_,(pss_cons (ps_if (pt_cmpR op_eq (pe_fldK K (pv 1) rfl) (pe_gi rfl T.g_START) (nomark _)) (pss_one (ps_ret (pe_lst (pa_cons (pe_fn F_begin_anew (hr.mono (by decide)) rfl (pa_cons (pv 0) pa_nil)) pa_nil)))) pss_nil) (pss_cons (ps_if (pt_chain op_le op_le (pe_gi rfl T.g_ADD_KIND) (pe_fldK K (pv 1) rfl) (pe_gi rfl T.g_PUMP)) (pss_one (ps_ret (pe_fn F_answer_change (hr.mono (by decide)) rfl (pa_cons (pv 0) (pa_cons (pv 1) pa_nil))))) pss_nil) (pss_cons (ps_if (pt_cmpR op_eq (pe_fldK K (pv 1) rfl) (pe_gi rfl T.g_BACK) (nomark _)) (pss_one (ps_ret (pe_lst (pa_cons (pe_fn F_take_back (hr.mono (by decide)) rfl (pa_cons (pv 0) pa_nil)) pa_nil)))) pss_nil) (pss_cons (ps_if (pt_cmpR op_eq (pe_fldK K (pv 1) rfl) (pe_gi rfl T.g_AGAIN) (nomark _)) (pss_one (ps_ret (pe_lst (pa_cons (pe_fn F_do_again (hr.mono (by decide)) rfl (pa_cons (pv 0) pa_nil)) pa_nil)))) pss_nil) (pss_cons (ps_if (pt_cmpR op_eq (pe_fldK K (pv 1) rfl) (pe_gi rfl T.g_STATE) (nomark _)) (pss_one (ps_ret (pe_fn F_ask_state (hr.mono (by decide)) rfl (pa_cons (pv 0) pa_nil)))) pss_nil) (pss_one (ps_ret (pe_fn F_ask (hr.mono (by decide)) rfl (pa_cons (pe_fldK K (pv 0) rfl) (pa_cons (pv 1) pa_nil)))))))))),?_⟩
  rcases kindOf x with rfl | hch | rfl | rfl | rfl | hask
  ·walk_at "rd"
   refine ⟨R,d,rfl,hR,fun H1 R1 ea hR1 fr=>?_⟩
   refine ⟨by show 1≤sizeLine;decide,fun q hq=>?_⟩
   exact kk.fin ea hR1 hT (hR.tabL hT fr) fr.toT hq rfl
  ·have h1:=hch.1
   have h2:=hch.2
   walk_at "rd"
   refine iteFc (dec_ne (by omega)) ?_
   walk_at "rd"
   refine iteTc (decide_eq_true h1) ?_
   walk_at "rd"
   refine iteTc (decide_eq_true h2) ?_
   walk_at "rd"
   exact ⟨R,d,c,x,rfl,hR,gd,hT,hc0,hok,hch,kk⟩
  ·walk_at "rd"
   refine ⟨R,d,rfl,hR,gd.flen,fun H1 R1 ea hR1 fr=>?_⟩
   refine ⟨by show 1≤sizeLine;decide,fun q hq=>?_⟩
   refine kk.fin ea hR1 hT (hR.tabL hT fr) fr.toT hq ?_
   obtain ⟨dn,dp,df⟩:=d
   cases dp <;> rfl
  ·walk_at "rd"
   refine ⟨R,d,rfl,hR,gd.flen,fun H1 R1 ea hR1 fr=>?_⟩
   refine ⟨by show 1≤sizeLine;decide,fun q hq=>?_⟩
   refine kk.fin ea hR1 hT (hR.tabL hT fr) fr.toT hq ?_
   obtain ⟨dn,dp,df⟩:=d
   cases df <;> rfl
  ·walk_at "rd"
   refine ⟨R,d,rfl,hR,gd,fun H1 q s1 hq hl=>?_⟩
   exact kk H1 R q rfl (hR.same s1) (hT.same s1) (fun b o hb _ hn=>⟨hn,s1 _ _ hb⟩) (fun b o hb _ z=>by rw [z,hq] at hb;cases hb) hl
  ·have h1:=hask.1
   have h2:=hask.2
   walk_at "rd"
   refine iteFc (dec_ne (by omega)) ?_
   walk_at "rd"
   refine iteTc (decide_eq_true (by omega)) ?_
   walk_at "rd"
   refine iteFc (decide_eq_false (by omega)) ?_
   walk_at "rd"
   refine iteFc (dec_ne (by omega)) ?_
   walk_at "rd"
   refine iteFc (dec_ne (by omega)) ?_
   walk_at "rd"
   refine iteFc (dec_ne (by omega)) ?_
   walk_at "rd"
   refine ⟨R.now,d.now,c,x,rfl,hR.now,gd.now,hT,hc0,hask,fun H1 q kp hT1 hq hl=>?_⟩
   have hact:=ask_act d x hask
   refine kk H1 R q rfl ?_ hT1 (fun b o hb hP hn=>⟨hn,kp _ _ hb hP⟩) (fun b o hb _ z=>by rw [z,hq] at hb;cases hb) ?_
   ·rw [hact];exact hR.keepT hPt kp
   ·rw [hact];exact hl
end
end Y58
namespace Y58
open PySem PySem.Spec PyProof.Rows L2
abbrev s_split_calls:Stmt:=top 107
theorem sc_split_calls:FnScope ["calls","found","at","number","behind","given","row","start"] ["calls"] (defScope s_split_calls):=by walk_at "sc"
section
variable {P:Program} {w:World} {K:PySem.W.Frag} {mg:Str→Option Value} {base:Heap} {t:Adr} {f:Addr} {fd:FuncData}
theorem put_append:∀a b:List (List (List Int)),PyFlat.put (a++b)=PyFlat.put a++PyFlat.put b
 | [],_=>rfl
 | c::a,b=>by
  show PyFlat.put1 c++PyFlat.put (a++b)=(PyFlat.put1 c++PyFlat.put a)++PyFlat.put b
  rw [put_append a b,List.append_assoc]
def offN (xs:List Km415.Call) (i:Nat):Nat:=(PyFlat.put ((xs.take i).map enc)).length
theorem flat_at {xs:List Km415.Call} {i:Nat} {x:Km415.Call} (h:xs[i]?=some x):PyFlat.put (xs.map enc)=PyFlat.put ((xs.take i).map enc)++(PyFlat.put1 (enc x)++PyFlat.put ((xs.drop (i+1)).map enc)):=by
 have hi:=(List.getElem?_eq_some_iff.mp h).1
 have he:=(List.getElem?_eq_some_iff.mp h).2
 have e:xs=xs.take i++(x::xs.drop (i+1)):=by
  rw [←he,List.getElem_cons_drop hi,List.take_append_drop]
 conv=>lhs;rw [e]
 rw [List.map_append,put_append,List.map_cons];rfl
theorem offN_succ {xs:List Km415.Call} {i:Nat} {x:Km415.Call} (h:xs[i]?=some x):offN xs (i+1)=offN xs i+(PyFlat.put1 (enc x)).length:=by
 unfold offN
 rw [take_snoc h,List.map_append,put_append,List.length_append]
 show _+(PyFlat.put1 (enc x)++PyFlat.put []).length=_
 rw [show PyFlat.put []=[] from rfl,List.append_nil]
theorem put1_plain (x:Km415.Call) (h:callNum x≠2):PyFlat.put1 (enc x)=callNum x::callGiven x∧callRow x=[]:=by
 cases x <;> first | exact ⟨rfl,rfl⟩ | exact absurd rfl h
theorem put1_model (x:Km415.Call) (h:callNum x=2):PyFlat.put1 (enc x)=callNum x::(callGiven x++((callRow x).length:Int)::callRow x):=by
 cases x with
 | model a b q =>
  show [2,(a:Int),(b:Int)]++((((q.map fun (n:Nat)=>(n:Int)).length:Nat):Int)::(q.map fun (n:Nat)=>(n:Int))++[])=_
  rw [List.append_nil];rfl
 | _=>exact absurd h (by simp [callNum,enc])
abbrev sizesL:List Int:=[0,4,2,2,1,2,2,2,2,1,1,2,3,2,2,1,1,2,2,2,2,1,1,1,1,0,0,0,0,0,0]
theorem size_at (x:Km415.Call):∃k:Nat,callNum x=(k:Int)∧(sizesL.map V.int)[k]?=some (.int ((callGiven x).length:Nat)):=by
 cases x <;> first
  | exact ⟨0,rfl,rfl⟩
  | exact ⟨1,rfl,rfl⟩
  | exact ⟨2,rfl,rfl⟩
  | exact ⟨3,rfl,rfl⟩
  | exact ⟨4,rfl,rfl⟩
  | exact ⟨5,rfl,rfl⟩
  | exact ⟨6,rfl,rfl⟩
  | exact ⟨7,rfl,rfl⟩
  | exact ⟨8,rfl,rfl⟩
  | exact ⟨9,rfl,rfl⟩
  | exact ⟨10,rfl,rfl⟩
  | exact ⟨11,rfl,rfl⟩
  | exact ⟨12,rfl,rfl⟩
  | exact ⟨13,rfl,rfl⟩
  | exact ⟨14,rfl,rfl⟩
  | exact ⟨15,rfl,rfl⟩
  | exact ⟨16,rfl,rfl⟩
  | exact ⟨17,rfl,rfl⟩
  | exact ⟨18,rfl,rfl⟩
  | exact ⟨19,rfl,rfl⟩
  | exact ⟨20,rfl,rfl⟩
  | exact ⟨21,rfl,rfl⟩
  | exact ⟨22,rfl,rfl⟩
  | exact ⟨23,rfl,rfl⟩
  | exact ⟨24,rfl,rfl⟩
  | exact ⟨25,rfl,rfl⟩
  | exact ⟨26,rfl,rfl⟩
  | exact ⟨27,rfl,rfl⟩
  | exact ⟨28,rfl,rfl⟩
  | exact ⟨29,rfl,rfl⟩
  | exact ⟨30,rfl,rfl⟩
theorem cut_mid (p m s:List Int) {lo hi:Int} (hl:lo=(p.length:Int)) (hh:hi=((p.length+m.length:Nat):Int)):cutV ((p++(m++s)).map V.int) (some lo) (some hi)=m.map V.int:=by
 subst hl hh
 unfold cutV
 rw [HT.sIx_nat,HT.sIx_nat]
 simp only [List.length_map,List.length_append]
 rw [Nat.min_eq_left (by omega),Nat.min_eq_left (by omega),List.map_append,List.map_append]
 have h1:p.length=(p.map V.int).length:=(List.length_map ..).symm
 have h2:p.length+m.length - p.length=(m.map V.int).length:=by rw [List.length_map];omega
 rw [h2]
 conv=>lhs;rw [h1]
 rw [List.drop_left,List.take_left]
theorem at_mid (p:List Int) (v:Int) (s:List Int) {i:Nat} (h:i=p.length):((p++(v::s)).map V.int)[i]?=some (.int v):=by
 subst h
 rw [List.getElem?_map,List.getElem?_append_right (Nat.le_refl _),Nat.sub_self];rfl
def CallNew (t:Adr) (H0 H:Hp) (D c:Addr) (x:Km415.Call):Prop:=∃dx g r,H c=some (.ins t.cCall dx (callF (callNum x) g r))∧H g=some (.lst ((callGiven x).map V.int))∧H r=some (.lst ((callRow x).map V.int))∧H0 c=none∧H0 g=none∧H0 r=none∧g≠D∧r≠D
theorem CallNew.same {H0 H H':Hp} {D c:Addr} {x:Km415.Call} (s:Same H H') (h:CallNew t H0 H D c x):CallNew t H0 H' D c x:=by
 obtain ⟨dx,g,r,h1,h2,h3,q⟩:=h
 exact ⟨dx,g,r,s _ _ h1,s _ _ h2,s _ _ h3,q⟩
theorem CallNew.keep {H0 H H':Hp} {D c:Addr} {x:Km415.Call} {xs:List V} (hD:H D=some (.lst xs)) (kp:Keep D H H') (h:CallNew t H0 H D c x):CallNew t H0 H' D c x:=by
 obtain ⟨dx,g,r,h1,h2,h3,q1,q2,q3,n1,n2⟩:=h
 exact ⟨dx,g,r,kp _ _ h1 (ne_il h1 hD),kp _ _ h2 n1,kp _ _ h3 n2,q1,q2,q3,n1,n2⟩
def sp_split_calls (K:PySem.W.Frag) (t:Adr):Sp:=fun vs H Q _=>∃a xs,vs=[.ref a]∧SqL K H a ((PyFlat.put (xs.map enc)).map V.int)∧xs.length≤1000∧∀H' p cs,Same H H'→H p=none→H' p=some (.lst (cs.map V.ref))→Paired (CallNew t H H' p) cs xs→Q (.ref p) H'
theorem ok_split_calls (F:Fun K "split_calls" "split_calls" s_split_calls f fd) (T:Txt K mg t) (M_Call:Md P w K mg base "Call" t.cCall 1 ["self","number","given","row"] (sp_Call t)):FnOk P w K mg base CX0 3 f fd ["calls"] (sp_split_calls K t):=by
 refine F.ok sc_split_calls (fun vs H Q E h=>?_) (fun cdv _ outer s H vs Q E hr h=>?_)
 ·obtain ⟨a,xs,rfl,_⟩:=h;rfl
 ·obtain ⟨a,xs,rfl,ha,hlen,kk⟩:=h
  have nd:=sc_split_calls.nd
  refine ⟨_,(pss_cons (ps_set (i:=1) nd rfl (by walk_at "lo") (pe_lst pa_nil)) (pss_cons (ps_set (i:=2) nd rfl (by walk_at "lo") pe_int) (pss_cons (ps_while PassesOwn.never (pt_cmpR op_lt (pv 2) (pe_callB (call_lenK K) (by rfl) T.b_len PySem.boot_len (pa_cons (pv 0) pa_nil)) (nomark _)) (pss_cons (ps_set (i:=3) nd rfl (by walk_at "lo") (pe_ix (ix_listK K) (pv 0) (pv 2) (fun _ _=>rfl))) (pss_cons (ps_set (i:=4) nd rfl (by walk_at "lo") (pe_op op_add (pe_op op_add (pv 2) pe_int) (pe_ix (ix_tupK K) (pe_gt rfl T.g_SIZES) (pv 3) (fun _ _=>rfl)))) (pss_cons (ps_set (i:=5) nd rfl (by walk_at "lo") (pe_slice (sl_listK K) (pv 0) (po_some (pe_op op_add (pv 2) pe_int)) (po_some (pv 4)))) (pss_cons (ps_set (i:=6) nd rfl (by walk_at "lo") (pe_lst pa_nil)) (pss_cons (ps_if (pt_cmpR op_eq (pv 3) (pe_gi rfl T.g_ADD_MODEL) (nomark _)) (pss_cons (ps_set (i:=7) nd rfl (by walk_at "lo") (pe_op op_add (pv 4) pe_int)) (pss_cons (ps_set (i:=4) nd rfl (by walk_at "lo") (pe_op op_add (pv 7) (pe_ix (ix_listK K) (pv 0) (pv 4) (fun _ _=>rfl)))) (pss_one (ps_set (i:=6) nd rfl (by walk_at "lo") (pe_slice (sl_listK K) (pv 0) (po_some (pv 7)) (po_some (pv 4))))))) pss_nil) (pss_cons (ps_expr (pe_bmK K PySem.F.plainAttrs_list PySem.F.slot_list_append PySem.F.type_list_append mt_append (pv 1) (pa_cons (pe_mk M_Call (hr.mono (by decide)) rfl (pa_cons (pv 3) (pa_cons (pv 5) (pa_cons (pv 6) pa_nil)))) pa_nil))) (pss_one (ps_set (i:=2) nd rfl (by walk_at "lo") (pv 4)))))))))) (pss_one (ps_ret (pv 1)))))),?_⟩
  refine ⟨Nat.zero_le _,fun D hD=>?_⟩
  have s0:Same H (upd H D (.lst [])):=same_new hD
  refine ⟨fun m σ H'=>∃i,m=xs.length - i∧i≤xs.length∧Same H H'∧(∃cs,H' D=some (.lst (cs.map V.ref))∧Paired (CallNew t H H' D) cs (xs.take i))∧∃v3 v4 v5 v6 v7,σ=[some (.ref a),some (.ref D),some (iN (offN xs i)),v3,v4,v5,v6,v7],
   ⟨_,0,rfl,Nat.zero_le _,s0,⟨[],upd_same,.nil⟩,none,none,none,none,none,rfl⟩,?_⟩
  rintro m σ H1 ⟨i,rfl,hi,s1,⟨cs,hD1,hcs⟩,v3,v4,v5,v6,v7,rfl⟩
  have ha1:=s1.seq ha
  refine ⟨_,rfl,?_⟩
  refine ⟨_,rfl,?_⟩
  refine ⟨a,_,rfl,.inl ha1,?_⟩
  refine ⟨_,_,rfl,rfl,_,rfl,?_⟩
  rw [List.length_map]
  show if decide (((offN xs i:Nat):Int) < (((PyFlat.put (xs.map enc)).length:Nat):Int))=true then _ else _
  rw [dec_lt]
  by_cases hlt:i < xs.length
  ·have hx:xs[i]?=some xs[i]:=List.getElem?_eq_getElem hlt
   generalize xs[i]=x at hx
   have hfl:=flat_at hx
   have hsu:=offN_succ hx
   obtain ⟨n,hn,hsz⟩:=size_at x
   generalize hpre:PyFlat.put ((xs.take i).map enc)=pre at hfl
   have hoff:offN xs i=pre.length:=by unfold offN;rw [hpre]
   generalize PyFlat.put ((xs.drop (i+1)).map enc)=post at hfl
   have hp1:1≤(PyFlat.put1 (enc x)).length:=by
    by_cases h2:callNum x=2
    ·rw [put1_model x h2,List.length_cons];omega
    ·rw [(put1_plain x h2).1,List.length_cons];omega
   rw [decide_eq_true (by rw [hfl,hoff,List.length_append,List.length_append];omega)]
   refine iteTc rfl ?_
   refine ⟨fun σ' H'=>∃cs',H' D=some (.lst (cs'.map V.ref))∧Paired (CallNew t H H' D) cs' (xs.take (i+1))∧Same H H'∧∃v3 v4 v5 v6 v7,σ'=[some (.ref a),some (.ref D),some (iN (offN xs (i+1))),v3,v4,v5,v6,v7],fun σ' H' ⟨cs',q1,q2,q3,q4⟩=>⟨xs.length - (i+1),by omega,i+1,rfl,hlt,q3,⟨cs',q1,q2⟩,q4⟩,?_⟩
   rw [hfl] at ha ha1
   have hk2:callNum x=2∨callNum x≠2:=by omega
   have hat:((pre++(PyFlat.put1 (enc x)++post)).map V.int)[offN xs i]?=some (.int (callNum x)):=by
    rcases hk2 with h2 | h2
    ·rw [put1_model x h2];exact at_mid pre (callNum x) _ hoff
    ·rw [(put1_plain x h2).1];exact at_mid pre (callNum x) _ hoff
   refine ⟨_,rfl,_,rfl,?_⟩
   refine ⟨a,_,((offN xs i:Nat):Int),_,rfl,rfl,ha1,atI_nat hat,?_⟩
   refine ⟨_,rfl,?_⟩
   refine ⟨_,_,rfl,rfl,?_⟩
   refine ⟨_,rfl,?_⟩
   refine ⟨t.aSIZES,_,((n:Nat):Int),_,rfl,by rw [hn],T.v_SIZES H1,atI_nat hsz,?_⟩
   refine ⟨_,_,rfl,rfl,?_⟩
   have eb:((offN xs i:Nat):Int)+1+(((callGiven x).length:Nat):Int)=((pre.length+1+(callGiven x).length:Nat):Int):=by omega
   have hcut:cutV ((pre++(PyFlat.put1 (enc x)++post)).map V.int) (some (((offN xs i:Nat):Int)+1)) (some (((offN xs i:Nat):Int)+1+(((callGiven x).length:Nat):Int)))=(callGiven x).map V.int:=by
    have e:∃rest,pre++(PyFlat.put1 (enc x)++post)=(pre++[callNum x])++(callGiven x++rest):=by
     rcases hk2 with h2 | h2
     ·exact ⟨(((callRow x).length:Int)::callRow x)++post,by rw [put1_model x h2];simp⟩
     ·exact ⟨post,by rw [(put1_plain x h2).1];simp⟩
    obtain ⟨rest,e⟩:=e
    rw [e]
    refine cut_mid _ _ _ ?_ ?_
    ·rw [List.length_append,List.length_singleton];omega
    ·rw [List.length_append,List.length_singleton];omega
   walk_at "rd"
   refine ⟨a,_,rfl,ha1,fun G hG=>?_⟩
   rw [hcut]
   have sG:Same H1 (upd H1 G (.lst ((callGiven x).map V.int))):=same_new hG
   have hGG:(upd H1 G (.lst ((callGiven x).map V.int))) G=some (.lst ((callGiven x).map V.int)):=upd_same
   generalize upd H1 G (.lst ((callGiven x).map V.int))=H2 at sG hGG
   have nGD:G≠D:=fun e=>by rw [e,hD1] at hG;cases hG
   have hcl:cs.length=(xs.take i).length:=Paired.length hcs
   walk_at "rd"
   refine ⟨by decide,fun R0 hR0=>?_⟩
   have sR:Same H2 (upd H2 R0 (.lst [])):=same_new hR0
   have hRR:(upd H2 R0 (.lst [])) R0=some (.lst []):=upd_same
   generalize upd H2 R0 (.lst [])=H3 at sR hRR
   have s13:=sG.trans sR
   have ha3:=s13.seq ha1
   have hD3:=s13 _ _ hD1
   have hG3:=sR _ _ hGG
   walk_at "rd"
   rcases hk2 with h2 | h2
   ·refine iteTc (by rw [h2];rfl) ?_
    have hput:=put1_model x h2
    rw [hput] at ha3 hsu
    have ha4:SqL K H3 a (((pre++[callNum x]++callGiven x)++(((callRow x).length:Int)::(callRow x++post))).map V.int):=by
     have e:(pre++[callNum x]++callGiven x)++(((callRow x).length:Int)::(callRow x++post))=pre++(callNum x::(callGiven x++((callRow x).length:Int)::callRow x)++post):=by simp
     rw [e];exact ha3
    have hrl:=at_mid (pre++[callNum x]++callGiven x) ((callRow x).length:Int) (callRow x++post) (i:=pre.length+1+(callGiven x).length) (by simp;omega)
    walk_at "rd"
    refine ⟨a,_,((pre.length+1+(callGiven x).length:Nat):Int),_,rfl,congrArg V.int eb,ha4,atI_nat hrl,?_⟩
    walk_at "rd"
    refine ⟨a,_,rfl,ha4,fun R1 hR1=>?_⟩
    have hcut2:cutV (((pre++[callNum x]++callGiven x)++(((callRow x).length:Int)::(callRow x++post))).map V.int) (some (((offN xs i:Nat):Int)+1+(((callGiven x).length:Nat):Int)+1)) (some (((offN xs i:Nat):Int)+1+(((callGiven x).length:Nat):Int)+1+((callRow x).length:Int)))=(callRow x).map V.int:=by
     have e:(pre++[callNum x]++callGiven x)++(((callRow x).length:Int)::(callRow x++post))=(pre++[callNum x]++callGiven x++[((callRow x).length:Int)])++(callRow x++post):=by simp
     rw [e]
     refine cut_mid _ _ _ ?_ ?_
     ·simp only [List.length_append,List.length_singleton];omega
     ·simp only [List.length_append,List.length_singleton];omega
    rw [hcut2]
    have sR1:Same H3 (upd H3 R1 (.lst ((callRow x).map V.int))):=same_new hR1
    have hRR1:(upd H3 R1 (.lst ((callRow x).map V.int))) R1=some (.lst ((callRow x).map V.int)):=upd_same
    generalize upd H3 R1 (.lst ((callRow x).map V.int))=H3' at sR1 hRR1
    have nRD:R1≠D:=fun e=>by rw [e,hD3] at hR1;cases hR1
    have fR:H R1=none:=(s1.trans s13).free hR1
    replace hD3:=sR1 _ _ hD3
    replace hG3:=sR1 _ _ hG3
    replace s13:=s13.trans sR1
    have hR3:=hRR1
    walk_at "rd"
    refine ⟨.inl ⟨rfl,_,SqL.of hD3⟩,?_⟩
    walk_at "rd"
    intro x0 dx0 hx0 hdx0 hne
    refine ⟨x0,dx0,callNum x,G,R1,rfl,upd_same,fun H4 kp4 hx4=>⟨rfl,?_⟩⟩
    have s4:=made_same hx0 hdx0 kp4
    have hD4:=s4 _ _ hD3
    refine ⟨D,_,.ref x0,rfl,rfl,hD4,small (by rw [List.length_map,hcl,List.length_take];omega),?_⟩
    have s14:Same H H4:=(s1.trans s13).trans s4
    have hG4:=s4 _ _ hG3
    have hR4:=s4 _ _ hR3
    have hxD:x0≠D:=ne_il hx4 hD4
    walk_at "rd"
    refine ⟨cs++[x0],by rw [upd_same,List.map_append];rfl,?_,same_upd s14 hD,some (V.int (callNum x)),some (V.int (((offN xs i:Nat):Int)+1+(((callGiven x).length:Nat):Int)+1+((callRow x).length:Int))),some (V.ref G),some (V.ref R1),some (V.int (((offN xs i:Nat):Int)+1+(((callGiven x).length:Nat):Int)+1)),?_⟩
    ·rw [take_snoc hx]
     refine paired_snoc ⟨dx0,G,R1,by rw [upd_ne hxD];exact hx4,by rw [upd_ne nGD];exact hG4,by rw [upd_ne nRD];exact hR4,(s1.trans s13).free hx0,s1.free hG,fR,nGD,nRD⟩ ?_
     exact Paired.mapP hcs fun c z q=>((q.same s13).same s4).keep hD4 (Keep.upd _ _ _)
    ·have e:((offN xs i:Nat):Int)+1+(((callGiven x).length:Nat):Int)+1+((callRow x).length:Int)=((offN xs (i+1):Nat):Int):=by
      rw [hsu];simp only [List.length_cons,List.length_append];omega
     show [some (V.ref a),some (V.ref D),some (V.int (((offN xs i:Nat):Int)+1+(((callGiven x).length:Nat):Int)+1+((callRow x).length:Int))),some (V.int (callNum x)),some (V.int (((offN xs i:Nat):Int)+1+(((callGiven x).length:Nat):Int)+1+((callRow x).length:Int))),some (V.ref G),some (V.ref R1),some (V.int (((offN xs i:Nat):Int)+1+(((callGiven x).length:Nat):Int)+1))]=_
     rw [e]
   ·refine iteFc (dec_ne h2) ?_
    have hput:=put1_plain x h2
    rw [hput.1] at hsu
    have nRD:R0≠D:=fun e=>by rw [e,sG _ _ hD1] at hR0;cases hR0
    have fR:H R0=none:=(s1.trans sG).free hR0
    have hR3:H3 R0=some (.lst ((callRow x).map V.int)):=by rw [hput.2];exact hRR
    walk_at "rd"
    refine ⟨.inl ⟨rfl,_,SqL.of hD3⟩,?_⟩
    walk_at "rd"
    intro x0 dx0 hx0 hdx0 hne
    refine ⟨x0,dx0,callNum x,G,R0,rfl,upd_same,fun H4 kp4 hx4=>⟨rfl,?_⟩⟩
    have s4:=made_same hx0 hdx0 kp4
    have hD4:=s4 _ _ hD3
    refine ⟨D,_,.ref x0,rfl,rfl,hD4,small (by rw [List.length_map,hcl,List.length_take];omega),?_⟩
    have s14:Same H H4:=(s1.trans s13).trans s4
    have hG4:=s4 _ _ hG3
    have hR4:=s4 _ _ hR3
    have hxD:x0≠D:=ne_il hx4 hD4
    walk_at "rd"
    refine ⟨cs++[x0],by rw [upd_same,List.map_append];rfl,?_,same_upd s14 hD,some (V.int (callNum x)),some (V.int (((offN xs i:Nat):Int)+1+(((callGiven x).length:Nat):Int))),some (V.ref G),some (V.ref R0),v7,?_⟩
    ·rw [take_snoc hx]
     refine paired_snoc ⟨dx0,G,R0,by rw [upd_ne hxD];exact hx4,by rw [upd_ne nGD];exact hG4,by rw [upd_ne nRD];exact hR4,(s1.trans s13).free hx0,s1.free hG,fR,nGD,nRD⟩ ?_
     exact Paired.mapP hcs fun c z q=>((q.same s13).same s4).keep hD4 (Keep.upd _ _ _)
    ·have e:((offN xs i:Nat):Int)+1+(((callGiven x).length:Nat):Int)=((offN xs (i+1):Nat):Int):=by
      rw [hsu];simp only [List.length_cons];omega
     show [some (V.ref a),some (V.ref D),some (V.int (((offN xs i:Nat):Int)+1+(((callGiven x).length:Nat):Int))),some (V.int (callNum x)),some (V.int (((offN xs i:Nat):Int)+1+(((callGiven x).length:Nat):Int))),some (V.ref G),some (V.ref R0),v7]=_
     rw [e]
  ·have he:i=xs.length:=by omega
   subst he
   have hof:offN xs xs.length=(PyFlat.put (xs.map enc)).length:=by unfold offN;rw [List.take_length]
   rw [decide_eq_false (by rw [hof];exact Nat.lt_irrefl _)]
   refine iteFc rfl ?_
   rw [List.take_length] at hcs
   exact ⟨_,rfl,kk H1 D cs s1 hD hD1 hcs⟩
end
end Y58
namespace Y58
open PySem PySem.Spec PyProof.Rows L2
abbrev s_answers:Stmt:=top 146
theorem sc_answers:FnScope ["calls","record","given_back","call","answered"] ["calls"] (defScope s_answers):=by walk_at "sc"
section
variable {P:Program} {w:World} {K:PySem.W.Frag} {mg:Str→Option Value} {base:Heap} {t:Adr} {f:Addr} {fd:FuncData}
def deskN (d:Km415.Desk) (ys:List Km415.Call) (i:Nat):Km415.Desk:=(ys.take i).foldl (fun d x=>(Km415.act d x).1) d
theorem deskN_succ {d:Km415.Desk} {ys:List Km415.Call} {i:Nat} {x:Km415.Call} (h:ys[i]?=some x):deskN d ys (i+1)=(Km415.act (deskN d ys i) x).1:=by
 unfold deskN
 rw [take_snoc h,List.foldl_append];rfl
theorem playD_take:∀(ys:List Km415.Call) (d:Km415.Desk) (i:Nat) (x:Km415.Call),ys[i]?=some x→(playD d ys)[i]?=some (Km415Neutral.told (Km415.act (deskN d ys i) x).2)
 | [],_,_,_,h=>by simp at h
 | y::ys,d,0,x,h=>by
  have e:y=x:=by simpa using h
  subst e;rfl
 | y::ys,d,i+1,x,h=>by
  have:=playD_take ys (Km415.act d y).1 i x (by simpa using h)
  exact this
theorem playD_len:∀(ys:List Km415.Call) (d:Km415.Desk),(playD d ys).length=ys.length
 | [],_=>rfl
 | y::ys,d=>by
  show (playD _ ys).length+1=ys.length+1
  rw [playD_len ys]
theorem fill_len (n:Nat) (l:List Nat):(Km415.fill n l).length=n:=by
 unfold Km415.fill
 rw [List.length_append,List.length_take,List.length_replicate]
 omega
theorem told_len (d:Km415.Desk) (x:Km415.Call):(Km415Neutral.told (Km415.act d x).2).length≤8:=by
 have key:∀a:Km415.Ans,a.out.length≤7→(Km415Neutral.told a).length≤8:=fun a h=>by
  unfold Km415Neutral.told Km415Neutral.nums
  rw [List.length_cons,List.length_map]
  omega
 refine key _ ?_
 have h0:∀v,(Km415.only v).out.length≤7:=fun v=>by show 0≤7;decide
 rcases kindOf x with rfl | hch | rfl | rfl | rfl | hask
 ·exact h0 _
 ·rcases change_act d x hch with ⟨_,_,e⟩ | ⟨y',_,_,e⟩ <;> rw [e] <;> exact h0 _
 ·unfold Km415.act;dsimp only
  cases d.past <;> exact h0 _
 ·unfold Km415.act;dsimp only
  cases d.future <;> exact h0 _
 ·show 6≤7;decide
 ·cases x with
  | fits a b c =>
   show (if _ then _ else _:Km415.Ans).out.length≤7
   split <;> exact h0 _
  | closure a b =>
   unfold Km415.act
   dsimp only
   split
   ·exact h0 _
   ·split
    ·exact h0 _
    ·show 1≤7;decide
  | may a b =>
   unfold Km415.act
   dsimp only
   split <;> exact h0 _
  | next a =>
   unfold Km415.act
   dsimp only
   split
   ·exact h0 _
   ·show 1≤7;decide
  | look a =>
   unfold Km415.act
   dsimp only
   split
   ·exact h0 _
   ·show 3≤7;decide
  | find a b =>
   unfold Km415.act
   dsimp only
   split
   ·exact h0 _
   ·split <;> exact h0 _
  | from_ a b =>
   unfold Km415.act
   dsimp only
   split
   ·exact h0 _
   ·show 1≤7;decide
  | gather a b =>
   unfold Km415.act
   dsimp only
   split
   ·exact h0 _
   ·split
    ·exact h0 _
    ·split
     ·exact h0 _
     ·show (Km415.fill 6 _).length≤7
      rw [fill_len];decide
  | lacking a b =>
   unfold Km415.act
   dsimp only
   split
   ·exact h0 _
   ·split
    ·exact h0 _
    ·show 1≤7;decide
  | part a =>
   unfold Km415.act
   dsimp only
   split
   ·exact h0 _
   ·show 2≤7;decide
  | count a =>
   unfold Km415.act
   dsimp only
   split
   ·exact h0 _
   ·show 1≤7;decide
  | alike a =>
   unfold Km415.act
   dsimp only
   split
   ·exact h0 _
   ·show (Km415.fill 6 _).length≤7
    rw [fill_len];decide
  | harm a =>
   unfold Km415.act
   dsimp only
   split
   ·exact h0 _
   ·show 2≤7;decide
  | weights=>show 4≤7;decide
  | litres=>show 3≤7;decide
  | money=>show 1≤7;decide
  | _=>exact absurd hask (by simp [isAsk,callNum,enc])
def backN (d:Km415.Desk) (ys:List Km415.Call) (i:Nat):List Int:=PyFlat.told ((playD d ys).take i)
theorem backN_succ {d:Km415.Desk} {ys:List Km415.Call} {i:Nat} {x:Km415.Call} (h:ys[i]?=some x):backN d ys (i+1)=backN d ys i++((((Km415Neutral.told (Km415.act (deskN d ys i) x).2).length:Nat):Int)::Km415Neutral.told (Km415.act (deskN d ys i) x).2):=by
 unfold backN
 rw [take_snoc (playD_take ys d i x h)]
 unfold PyFlat.told
 rw [List.flatMap_append,List.flatMap_cons,List.flatMap_nil,List.append_nil]
theorem backN_len (d:Km415.Desk) (ys:List Km415.Call):∀i,i≤ys.length→(backN d ys i).length≤9 * i
 | 0,_=>by unfold backN;rw [List.take_zero];exact Nat.le_refl _
 | i+1,h=>by
  have hx:ys[i]?=some ys[i]:=List.getElem?_eq_getElem (by omega)
  rw [backN_succ hx,List.length_append,List.length_cons]
  have h1:=backN_len d ys i (by omega)
  have h2:=told_len (deskN d ys i) ys[i]
  omega
theorem goodN {ys:List Km415.Call} (hys:∀x∈ys,CallOk x):∀i,i≤ys.length→GoodD (deskN Km415.fresh ys i)
 | 0,_=>⟨opened_good,fun y h=>(by cases h),fun y h=>(by cases h),Nat.zero_le _,Nat.zero_le _⟩
 | i+1,h=>by
  have hx:ys[i]?=some ys[i]:=List.getElem?_eq_getElem (by omega)
  rw [deskN_succ hx]
  exact act_good (goodN hys i (by omega)) _ (hys _ (List.mem_of_getElem? hx))
def sp_answers (K:PySem.W.Frag) (Pt:Addr):Sp:=fun vs H Q _=>∃(a:Addr) (ns:List Int),vs=[.ref a]∧SqL K H a (ns.map V.int)∧PyKm415.answers_asked ns=true∧TabL H Pt∧∀(H':Hp) (p:Addr),H' p=some (.lst ((PyKm415.answers ns).map V.int))→Q (.ref p) H'
theorem ok_answers {Pt:Addr} (F:Fun K "answers" "answers" s_answers f fd) (T:Txt K mg t) (M_Record:Md P w K mg base "Record" t.cRecord 3 ["self"] (sp_Record t)) (F_split_calls:Fd P w K mg base "split_calls" 3 ["calls"] (sp_split_calls K t)) (F_answer:Fd P w K mg base "answer" 10 ["record","call"] (sp_ans t Pt fun _=>True)) :
  FnOk P w K mg base CX0 11 f fd ["calls"] (sp_answers K Pt):=by
 refine F.ok sc_answers (fun vs H Q E h=>?_) (fun cdv _ outer s H vs Q E hr h=>?_)
 ·obtain ⟨a,ns,rfl,_⟩:=h;rfl
 ·obtain ⟨a,ns,rfl,ha,hask,hT,kk⟩:=h
  have nd:=sc_answers.nd
  obtain ⟨xs,hput,hlen,hin,hans⟩:=face hask
  have hys:∀x∈(Km415.Call.start::xs),CallOk x:=fun x hx=>by
   rcases List.mem_cons.mp hx with rfl | hx
   ·exact trivial
   ·exact (hin x hx).2
  have hyl:(Km415.Call.start::xs).length≤1000:=by rw [List.length_cons];omega
  rw [hans] at kk
  have hall:backN Km415.fresh (Km415.Call.start::xs) (Km415.Call.start::xs).length=PyFlat.told (playD Km415.fresh (Km415.Call.start::xs)):=by
   unfold backN
   rw [←playD_len _ Km415.fresh,List.take_length]
  rw [←hall] at kk
  rw [hput] at ha
  generalize (Km415.Call.start::xs)=ys at *
  clear hans hall hput
  refine ⟨_,(pss_cons (ps_set (i:=1) nd rfl (by walk_at "lo") (pe_mk0 M_Record (hr.mono (by decide)) rfl)) (pss_cons (ps_set (i:=2) nd rfl (by walk_at "lo") (pe_lst pa_nil)) (pss_cons (ps_for PassesOwn.never rfl (pi_listK K (pe_fn F_split_calls (hr.mono (by decide)) rfl (pa_cons (pv 0) pa_nil))) (pg_name (i:=3) nd rfl (by walk_at "lo")) (pss_cons (ps_set (i:=4) nd rfl (by walk_at "lo") (pe_fn F_answer (hr.mono (by decide)) rfl (pa_cons (pv 1) (pa_cons (pv 3) pa_nil)))) (pss_cons (ps_expr (pe_bmK K PySem.F.plainAttrs_list PySem.F.slot_list_append PySem.F.type_list_append mt_append (pv 2) (pa_cons (pe_callB (call_lenK K) (by rfl) T.b_len PySem.boot_len (pa_cons (pv 4) pa_nil)) pa_nil))) (pss_one (ps_expr (pe_bmK K PySem.F.plainAttrs_list PySem.F.slot_list_extend PySem.F.type_list_extend mt_extend (pv 2) (pa_cons (pv 4) pa_nil))))))) (pss_one (ps_ret (pv 2)))))),?_⟩
  intro x0 dx0 hx0 hdx0 hne0
  refine ⟨x0,dx0,rfl,upd_same,fun H1 R ea kp1 hR1 fr1=>⟨rfl,?_⟩⟩
  have s1:=made_same hx0 hdx0 kp1
  have own1:∀b∈recOwn R,H b=none:=fun b hb=>by
   by_cases e:b=x0
   ·rw [e];exact hx0
   ·exact made_free (fr1 b hb e)
  subst ea
  have hT1:=hT.same s1
  walk_at "rd"
  refine ⟨by decide,fun gb hgb=>?_⟩
  have s2:Same H1 (upd H1 gb (.lst [])):=same_new hgb
  have hgb2:(upd H1 gb (.lst [])) gb=some (.lst []):=upd_same
  have hR2:=hR1.same s2
  have ngb:gb ∉ recOwn R:=fun q=>by
   obtain ⟨o,ho,_⟩:=hR1.there q
   rw [hgb] at ho;cases ho
  generalize upd H1 gb (.lst [])=H2 at s2 hgb2 hR2
  have s12:=s1.trans s2
  have hT2:=hT1.same s2
  walk_at "rd"
  refine ⟨a,ys,rfl,s12.seq ha,hyl,fun H3 p cs s3 hp hl hcs=>?_⟩
  have hgb3:=s3 _ _ hgb2
  have hR3:=hR2.same s3
  have hT3:=hT2.same s3
  have out3:∀{b:Addr},H2 b=none→b ∉ recOwn R∧b≠gb:=fun {b} q=>by
   refine ⟨fun z=>?_,fun z=>?_⟩
   ·obtain ⟨o,ho,_⟩:=hR2.there z
    rw [q] at ho;cases ho
   ·rw [z,hgb2] at q;cases q
  have hcl:cs.length=ys.length:=Paired.length hcs
  refine ⟨p,rfl,⟨_,SqL.of hl⟩,?_⟩
  refine for_list (K:=K) (a:=p) (xs:=cs.map V.ref) (fun i σ H'=>∃R' v3 v4,σ=[some (.ref a),some (.ref R.a),some (.ref gb),v3,v4]∧R'.a=R.a∧RecAt t H' R' (deskN Km415.fresh ys i)∧TabL H' Pt∧gb ∉ recOwn R'∧H' gb=some (.lst ((backN Km415.fresh ys i).map V.int)) ∧
    ∀b o,H3 b=some o→b≠Pt→b≠gb→b ∉ recOwn R→b ∉ recOwn R'∧H' b=some o)
   ⟨R,none,none,rfl,rfl,hR3,hT3,ngb,hgb3,fun b o hb _ _ hn=>⟨hn,hb⟩⟩ ?_ ?_ ?_
  ·rintro i σ H' _ ⟨R',v3,v4,rfl,ea',hR',hT',ngb',hgb',prot⟩
   obtain ⟨ps,hPs⟩:=hT3.there
   exact SqL.of (prot p _ hl (ne_tb hl hPs (by intro k z;cases z)) (out3 hp).2 (out3 hp).1).2
  ·rintro i x σ H' hx ⟨R',v3,v4,rfl,ea',hR',hT',ngb',hgb',prot⟩
   obtain ⟨c,hc,rfl⟩:=map_get hx
   obtain ⟨z,hz,hcz⟩:=paired_get' hcs hc
   obtain ⟨dc,gv,rv,q1,q2,q3,f1,f2,f3,_,_⟩:=hcz
   have hi:i < ys.length:=(List.getElem?_eq_some_iff.mp hz).1
   obtain ⟨ps,hPs⟩:=hT3.there
   have hcall:CallAt t H' c z:=⟨dc,gv,rv,(prot c _ q1 (ne_tb q1 hPs (by intro k z;cases z)) (out3 f1).2 (out3 f1).1).2,(prot gv _ q2 (ne_tb q2 hPs (by intro k z;cases z)) (out3 f2).2 (out3 f2).1).2,(prot rv _ q3 (ne_tb q3 hPs (by intro k z;cases z)) (out3 f3).2 (out3 f3).1).2⟩
   have hgd:=goodN hys i (by omega)
   walk_at "rd"
   refine ⟨R',deskN Km415.fresh ys i,c,z,by rw [ea'];rfl,hR',hgd,hT',hcall,hys z (List.mem_of_getElem? hz),trivial,fun H4 R4 q ea4 hR4 hT4 fr4 new4 hq4=>?_⟩
   obtain ⟨ps',hPs'⟩:=hT'.there
   have hgP:gb≠Pt:=ne_tb hgb' hPs' (by intro k z;cases z)
   obtain ⟨ngb4,hgb4⟩:=fr4 gb _ hgb' hgP ngb'
   have hqg:q≠gb:=fun e=>new4 gb _ hgb' ngb' e.symm
   have hb9:=backN_len Km415.fresh ys i (by omega)
   have ht8:=told_len (deskN Km415.fresh ys i) z
   walk_at "rd"
   refine ⟨.inl ⟨rfl,_,SqL.of hgb4⟩,?_⟩
   walk_at "rd"
   refine ⟨gb,_,_,rfl,rfl,hgb4,small (by rw [List.length_map];omega),?_⟩
   generalize hH5:upd H4 gb (.lst ((backN Km415.fresh ys i).map V.int++[V.int (((told (Km415.act (deskN Km415.fresh ys i) z).2).length:Nat):Int)]))=H5
   have hgb5:H5 gb=some (.lst ((backN Km415.fresh ys i).map V.int++[V.int (((told (Km415.act (deskN Km415.fresh ys i) z).2).length:Nat):Int)])):=by rw [←hH5];exact upd_same
   have kp5:Keep gb H4 H5:=by rw [←hH5];exact Keep.upd _ _ _
   have hq5:=kp5 _ _ hq4 hqg
   walk_at "rd"
   refine ⟨.inl ⟨rfl,_,SqL.of hgb5⟩,?_⟩
   walk_at "rd"
   have htl:(told (Km415.act (deskN Km415.fresh ys i) z).2).length≤8:=by unfold told;rw [List.length_map];exact ht8
   refine ⟨gb,q,_,_,rfl,rfl,hgb5,hq5,?_,?_⟩
   ·rw [List.length_append,List.length_map,List.length_singleton]
    have:=sizeLine_eq
    omega
   generalize hH6:upd H5 gb (.lst (((backN Km415.fresh ys i).map V.int++[V.int (((told (Km415.act (deskN Km415.fresh ys i) z).2).length:Nat):Int)])++told (Km415.act (deskN Km415.fresh ys i) z).2))=H6
   have kp6:Keep gb H4 H6:=kp5.trans (by rw [←hH6];exact Keep.upd _ _ _)
   refine ⟨R4,_,_,rfl,ea4.trans ea',?_,?_,ngb4,?_,fun b o hb hP hg hn=>?_⟩
   ·rw [deskN_succ hz];exact hR4.keepL hgb4 ngb4 kp6
   ·rcases hT4 with w1 | ⟨c',w1,w2⟩
    ·exact .inl (kp6 _ _ w1 (ne_of w1 hgb4 (by intro k;cases k)))
    ·exact .inr ⟨c',kp6 _ _ w1 (ne_of w1 hgb4 (by intro k;cases k)),kp6 _ _ w2 (ne_of w2 hgb4 (by intro k;cases k))⟩
   ·rw [←hH6,upd_same,backN_succ hz,List.map_append,List.map_cons,List.append_assoc]
    unfold told
    rw [List.length_map];rfl
   ·obtain ⟨n1,h1⟩:=prot b o hb hP hg hn
    obtain ⟨n2,h2⟩:=fr4 b o h1 hP n1
    exact ⟨n2,kp6 _ _ h2 hg⟩
  ·rintro σ H' ⟨R',v3,v4,rfl,ea',hR',hT',ngb',hgb',prot⟩
   rw [List.length_map,hcl] at hgb'
   walk_at "rd"
   exact kk H' gb hgb'
end
end Y58
namespace Y58
open PySem PySem.Spec PyProof.Rows L2
def FunAt (K:PySem.W.Frag) (mg:Str→Option Value) (x:Str) (s:Stmt) (ps:List Str):Prop:=∃f fd,Fun K x x s f fd∧mg x=some (.ref f)∧PySem.W.keepIn K (.ref f)=true∧Binds K fd ps []
def MkAt (K:PySem.W.Frag) (mg:Str→Option Value) (x qual:Str) (C:Addr) (s:Stmt) (ps:List Str):Prop:=∃f fd,Mk K C f∧Fun K "__init__" qual s f fd∧mg x=some (.ref C)∧Binds K fd ps []
def LamAt (K:PySem.W.Frag) (mg:Str→Option Value) (x:Str) (s:Stmt) (ps:List Str) (c:Addr):Prop:=∃f fd,FunC K x x s f fd c∧mg x=some (.ref f)∧PySem.W.keepIn K (.ref f)=true∧Binds K fd ps []
section
variable {P:Program} {w:World} {K:PySem.W.Frag} {mg:Str→Option Value} {base:Heap}
theorem FunAt.fd {x:Str} {s:Stmt} {ps:List Str} {k:Nat} {sp:Sp} (h:FunAt K mg x s ps) (ok:∀f fd,Fun K x x s f fd→FnOk P w K mg base CX0 k f fd ps sp):Fd P w K mg base x k ps sp:=by
 obtain ⟨f,fd,F,hm,kp,b⟩:=h
 exact ⟨f,fd,ok f fd F,hm,kp,b⟩
theorem LamAt.fd {x:Str} {s:Stmt} {ps:List Str} {k:Nat} {sp:Sp} {c:Addr} (h:LamAt K mg x s ps c) (ok:∀f fd,FunC K x x s f fd c→FnOk P w K mg base CX0 k f fd ps sp):Fd P w K mg base x k ps sp:=by
 obtain ⟨f,fd,F,hm,kp,b⟩:=h
 exact ⟨f,fd,ok f fd F,hm,kp,b⟩
theorem MkAt.md {x qual:Str} {C:Addr} {s:Stmt} {ps:List Str} {k:Nat} {sp:Sp} (h:MkAt K mg x qual C s ps) (ok:∀f fd,Fun K "__init__" qual s f fd→FnOk P w K mg base CX0 k f fd ps sp):Md P w K mg base x C k ps sp:=by
 obtain ⟨f,fd,M,F,hm,b⟩:=h
 exact ⟨f,fd,M,ok f fd F,hm,b⟩
variable {h:Heap}
theorem funAt_mk {x:Str} {s:Stmt} {ps:List Str} {f:Addr} {oc:Value} {od an:Option Addr} {osl:Array (Option Value)} {kV doc pm cdv ct:Value} (X:K.In h) (G:h.Ns mainGlobals mg)
  (hb:∀(kV doc pm:Value) (an:Option Addr) (cdv ct:Value) (us:List Value),us.length=ps.length→bindArgs (PySem.W.fnOf x x (defArgs s) (defBody s) (defScope s) .none kV doc pm an cdv ct) ⟨us,[]⟩=pure (ps.zip us))
  (a:PySem.W.nsIn K mainGlobals x=some (some (.ref f))) (l:K.lookup f=some ⟨oc,od,.func (PySem.W.fnOf x x (defArgs s) (defBody s) (defScope s) .none kV doc pm an cdv ct),osl⟩) (c:PySem.W.codeIn K cdv x=true) (k:PySem.W.keepIn K (.ref f)=true):FunAt K mg x s ps :=
 have F:=fun_mk (st:=s) l c k
 ⟨f,_,F,PySem.W.mg_of X G a,k,F.binds hb⟩
theorem lamAt_mk {x:Str} {s:Stmt} {ps:List Str} {f cc:Addr} {oc:Value} {od an:Option Addr} {osl:Array (Option Value)} {kV doc pm ct:Value} (X:K.In h) (G:h.Ns mainGlobals mg)
  (hb:∀(kV doc pm:Value) (an:Option Addr) (cdv ct:Value) (us:List Value),us.length=ps.length→bindArgs (PySem.W.fnOf x x (defArgs s) (defBody s) (defScope s) .none kV doc pm an cdv ct) ⟨us,[]⟩=pure (ps.zip us))
  (a:PySem.W.nsIn K mainGlobals x=some (some (.ref f))) (l:K.lookup f=some ⟨oc,od,.func (PySem.W.fnOf x x (defArgs s) (defBody s) (defScope s) .none kV doc pm an (.ref cc) ct),osl⟩) (c:PySem.W.codeIn K (.ref cc) x=true) (k:PySem.W.keepIn K (.ref f)=true):LamAt K mg x s ps cc :=
 have F:=fun_mk (st:=s) l c k
 ⟨f,_,⟨⟨oc,od,kV,doc,pm,an,ct,osl,rfl,l,c⟩⟩,PySem.W.mg_of X G a,k,F.binds hb⟩
theorem mkAt_mk {x qual:Str} {C:Addr} {s:Stmt} {ps:List Str} {f:Addr} {oc:Value} {od an:Option Addr} {osl:Array (Option Value)} {kV doc pm cdv ct:Value} (hC:mg x=some (.ref C))
  (hb:∀(kV doc pm:Value) (an:Option Addr) (cdv ct:Value) (us:List Value),us.length=ps.length→bindArgs (PySem.W.fnOf "__init__" qual (defArgs s) (defBody s) (defScope s) .none kV doc pm an cdv ct) ⟨us,[]⟩=pure (ps.zip us))
  (a:PySem.W.findIn K (.ref C) "__init__"=some (some (.ref f))) (i:PySem.W.isFn K (.ref f)=true) (l:K.lookup f=some ⟨oc,od,.func (PySem.W.fnOf "__init__" qual (defArgs s) (defBody s) (defScope s) .none kV doc pm an cdv ct),osl⟩) (c:PySem.W.codeIn K cdv qual=true) (k:PySem.W.keepIn K (.ref f)=true)
  (mk:PySem.W.makesIn K C=true) (kc:PySem.W.keepIn K (.ref C)=true):MkAt K mg x qual C s ps :=
 have F:=fun_mk (st:=s) l c k
 ⟨f,_,⟨mk,a,i,kc⟩,F,hC,F.binds hb⟩
theorem txt_id {t:Adr} (X:K.In h) (T:Txt K mg t):Txt K mg t:=T
theorem int_mk {x:Str} {n:Int} {k:Tok} (X:K.In h) (G:h.Ns mainGlobals mg) (a:PySem.W.nsIn K mainGlobals x=some (some (.int n k))):∃k:Tok,mg x=some (Value.int n k):=⟨k,PySem.W.mg_of X G a⟩
theorem non_mk {x:Str} (X:K.In h) (G:h.Ns mainGlobals mg) (a:PySem.W.nsIn K mainGlobals x=some none):mg x=none:=PySem.W.mg_none_of X G a
def intsOf:List Value→Option (List Int)
 | []=>some []
 | .int n _::r=>(intsOf r).map (n::·)
 | _::_=>none
theorem ints_vals:∀{us:List Value} {ns:List Int},intsOf us=some ns→Vals (ns.map V.int) us
 | [],ns,e=>by cases e;exact .nil
 | .int n t::r,ns,e=>by
  unfold intsOf at e
  cases q:intsOf r with
  | none=>rw [q] at e;cases e
  | some l =>
   rw [q] at e
   cases e
   exact .cons ⟨t,rfl⟩ (ints_vals q)
theorem tupAt_mk {x:Str} {a:Addr} {od:Option Addr} {its:Array Value} {n:Nat} {osl:Array (Option Value)} {ns:List Int} (X:K.In h) (G:h.Ns mainGlobals mg) (hx:PySem.W.nsIn K mainGlobals x=some (some (.ref a))) (l:K.lookup a=some ⟨.type "tuple",od,.seq its n,osl⟩) (hz:its.size≤sizeLine) (hi:intsOf its.toList=some ns):∃a,mg x=some (.ref a)∧∀H,SqT K H a (ns.map V.int) :=
 ⟨a,PySem.W.mg_of X G hx,fun H=>.inr ⟨_,its,n,l,rfl,rfl,hz,ints_vals hi⟩⟩
def NoAll (K:PySem.W.Frag) (C:Addr):List Str→Prop
 | []=>True
 | a::r=>PySem.W.findIn K (.ref C) a=some none∧NoAll K C r
def ClsAt (K:PySem.W.Frag) (mg:Str→Option Value) (x qual:Str) (s:Stmt) (ps attrs:List Str):Prop:=∃C,Cls K C∧MkAt K mg x qual C s ps∧NoAll K C attrs
theorem clsAt_mk {x qual:Str} {C:Addr} {s:Stmt} {ps attrs:List Str} {f:Addr} {oc:Value} {od an:Option Addr} {osl:Array (Option Value)} {kV doc pm cdv ct:Value} (X:K.In h) (G:h.Ns mainGlobals mg)
  (hb:∀(kV doc pm:Value) (an:Option Addr) (cdv ct:Value) (us:List Value),us.length=ps.length→bindArgs (PySem.W.fnOf "__init__" qual (defArgs s) (defBody s) (defScope s) .none kV doc pm an cdv ct) ⟨us,[]⟩=pure (ps.zip us))
  (aC:PySem.W.nsIn K mainGlobals x=some (some (.ref C))) (a:PySem.W.findIn K (.ref C) "__init__"=some (some (.ref f))) (i:PySem.W.isFn K (.ref f)=true) (l:K.lookup f=some ⟨oc,od,.func (PySem.W.fnOf "__init__" qual (defArgs s) (defBody s) (defScope s) .none kV doc pm an cdv ct),osl⟩) (c:PySem.W.codeIn K cdv qual=true) (k:PySem.W.keepIn K (.ref f)=true)
  (pg:PySem.W.plainGet K C Str.empty=true) (hd:PySem.W.hasDictIn K C=true) (po:PySem.W.plainOver K C=true) (sa:PySem.W.findIn K (.ref C) "__setattr__"=some (some (.builtin "object.__setattr__"))) (mk:PySem.W.makesIn K C=true) (kc:PySem.W.keepIn K (.ref C)=true) (n:NoAll K C attrs):ClsAt K mg x qual s ps attrs :=
 ⟨C,⟨pg,hd,po,sa⟩,mkAt_mk (PySem.W.mg_of X G aC) hb a i l c k mk kc,n⟩
theorem lam_all {x:Str} {s:Stmt} {ps:List Str} {f cc Pt:Addr} {oc oc2:Value} {od an od2:Option Addr} {osl osl2:Array (Option Value)} {vs:Array Value} {kV doc pm ct:Value} (X:K.In h) (G:h.Ns mainGlobals mg)
  (hb:∀(kV doc pm:Value) (an:Option Addr) (cdv ct:Value) (us:List Value),us.length=ps.length→bindArgs (PySem.W.fnOf x x (defArgs s) (defBody s) (defScope s) .none kV doc pm an cdv ct) ⟨us,[]⟩=pure (ps.zip us))
  (a:PySem.W.nsIn K mainGlobals x=some (some (.ref f))) (l:K.lookup f=some ⟨oc,od,.func (PySem.W.fnOf x x (defArgs s) (defBody s) (defScope s) .none kV doc pm an (.ref cc) ct),osl⟩) (c:PySem.W.codeIn K (.ref cc) x=true) (k:PySem.W.keepIn K (.ref f)=true)
  (lc:K.lookup cc=some ⟨oc2,od2,.fields vs,osl2⟩) (h11:vs[11]?=some (.ref Pt)) (no:(K.lookup Pt).isNone=true):∃c Pt,LamAt K mg x s ps c∧PySem.W.tabIn K x=some (c,Pt)∧K.lookup Pt=none:=by
 refine ⟨cc,Pt,lamAt_mk X G hb a l c k,?_,Option.isNone_iff_eq_none.mp no⟩
 unfold PySem.W.tabIn
 rw [a]
 dsimp only
 rw [l]
 dsimp only [PySem.W.fnOf]
 rw [lc]
 dsimp only
 rw [h11]
theorem ansAt_mk {x:Str} {s:Stmt} {ps:List Str} {f:Addr} {oc:Value} {od an:Option Addr} {osl:Array (Option Value)} {kV doc pm cdv ct:Value} (X:K.In h) (G:h.Ns mainGlobals mg)
  (hb:∀(kV doc pm:Value) (an:Option Addr) (cdv ct:Value) (us:List Value),us.length=ps.length→bindArgs (PySem.W.fnOf x x (defArgs s) (defBody s) (defScope s) .none kV doc pm an cdv ct) ⟨us,[]⟩=pure (ps.zip us))
  (a:PySem.W.nsIn K mainGlobals x=some (some (.ref f))) (l:K.lookup f=some ⟨oc,od,.func (PySem.W.fnOf x x (defArgs s) (defBody s) (defScope s) .none kV doc pm an cdv ct),osl⟩) (c:PySem.W.codeIn K cdv x=true) (k:PySem.W.keepIn K (.ref f)=true) :
  ∃f fd,Fun K x x s f fd∧mg x=some (.ref f)∧∀(s:Shared) (us:List Value),us.length=ps.length→BindsTo s fd ⟨us,[]⟩ (ps.zip us) :=
 ⟨f,_,fun_mk (st:=s) l c k,PySem.W.mg_of X G a,fun s us hl=>.of_eq (hb kV doc pm an cdv ct us hl)⟩
theorem all_ok {t:Adr} {c Pt:Addr} {fa:Addr} {fd:FuncData} (T:Txt K mg t) (LH:LamHd K mg base c Pt) (F:Fun K "answers" "answers" s_answers fa fd)
  (a0:FunAt K mg "kinds_in" s_kinds_in ["bits"])
  (a1:FunAt K mg "bits_of" s_bits_of ["numbers"])
  (a2:FunAt K mg "minutes_of" s_minutes_of ["yard","bits"])
  (a3:FunAt K mg "kilograms_of" s_kilograms_of ["yard","bits"])
  (a4:FunAt K mg "harmful_kinds" s_harmful_kinds ["yard"])
  (a5:FunAt K mg "is_dry" s_is_dry ["car"])
  (a6:FunAt K mg "has_part" s_has_part ["car","t"])
  (a7:FunAt K mg "is_held_back" s_is_held_back ["yard","car","t"])
  (a8:FunAt K mg "may_come_off" s_may_come_off ["yard","car","t"])
  (a9:FunAt K mg "must_come_off" s_must_come_off ["yard","car","wanted"])
  (a10:FunAt K mg "free_places" s_free_places ["yard"])
  (a11:FunAt K mg "take_off" s_take_off ["yard","car","bits"])
  (a12:MkAt K mg "Car" "Car.__init__" t.cCar s_Car_init ["self","model","has","litres","kg"])
  (a13:FunAt K mg "copied_car" s_copied_car ["car"])
  (a14:MkAt K mg "Yard" "Yard.__init__" t.cYard s_Yard_init ["self"])
  (a15:FunAt K mg "copied_yard" s_copied_yard ["yard"])
  (a16:FunAt K mg "kind_is_there" s_kind_is_there ["yard","t"])
  (a17:FunAt K mg "model_is_there" s_model_is_there ["yard","m"])
  (a18:FunAt K mg "car_is_there" s_car_is_there ["yard","k"])
  (a19:FunAt K mg "part_is_there" s_part_is_there ["yard","i"])
  (a20:FunAt K mg "names_missing_kind" s_names_missing_kind ["yard","bits"])
  (a21:FunAt K mg "stock_kilograms" s_stock_kilograms ["yard"])
  (a22:FunAt K mg "ask_weights" s_ask_weights ["yard"])
  (a23:FunAt K mg "ask_litres" s_ask_litres ["yard"])
  (a24:FunAt K mg "ask_money" s_ask_money ["yard"])
  (a25:FunAt K mg "ask_state" s_ask_state ["record"])
  (a26:FunAt K mg "why_not_sought" s_why_not_sought ["yard","m","wanted"])
  (a27:FunAt K mg "part_fits" s_part_fits ["yard","t","m","n"])
  (a28:FunAt K mg "stock_place" s_stock_place ["yard","t","model"])
  (a29:FunAt K mg "lacking" s_lacking ["yard","model","wanted"])
  (a30:FunAt K mg "can_give" s_can_give ["yard","car","t","model"])
  (a31:FunAt K mg "cars_that_give" s_cars_that_give ["yard","t","model"])
  (a32:FunAt K mg "longer_ways" s_longer_ways ["ways","cars"])
  (a33:FunAt K mg "all_ways" s_all_ways ["yard","model","lacks"])
  (a34:FunAt K mg "wanted_by_way" s_wanted_by_way ["lacks","way"])
  (a35:FunAt K mg "must_by_way" s_must_by_way ["yard","lacks","way"])
  (a36:FunAt K mg "way_takes" s_way_takes ["yard","lacks","way","known"])
  (a37:LamAt K mg "least_way" s_least_way ["yard","model","lacks"] c)
  (a38:FunAt K mg "filled" s_filled ["numbers","length"])
  (a39:FunAt K mg "ask_fits" s_ask_fits ["yard","t","m","n"])
  (a40:FunAt K mg "ask_must" s_ask_must ["yard","k","t"])
  (a41:FunAt K mg "ask_may" s_ask_may ["yard","k","t"])
  (a42:FunAt K mg "ask_next" s_ask_next ["yard","k"])
  (a43:FunAt K mg "ask_look" s_ask_look ["yard","k"])
  (a44:FunAt K mg "ask_harm" s_ask_harm ["yard","k"])
  (a45:FunAt K mg "ask_find" s_ask_find ["yard","t","m"])
  (a46:FunAt K mg "ask_from" s_ask_from ["yard","t","m"])
  (a47:FunAt K mg "ask_least" s_ask_least ["yard","m","wanted"])
  (a48:FunAt K mg "ask_lacking" s_ask_lacking ["yard","m","wanted"])
  (a49:FunAt K mg "ask_part" s_ask_part ["yard","i"])
  (a50:FunAt K mg "ask_count" s_ask_count ["yard","t"])
  (a51:FunAt K mg "ask_alike" s_ask_alike ["yard","t"])
  (a52:MkAt K mg "Call" "Call.__init__" t.cCall s_Call_init ["self","number","given","row"])
  (a53:FunAt K mg "split_calls" s_split_calls ["calls"])
  (a54:MkAt K mg "Kind" "Kind.__init__" t.cKind s_Kind_init ["self","kg","minutes","needs","harm"])
  (a55:FunAt K mg "add_kind" s_add_kind ["yard","kg","minutes","needs","harm"])
  (a56:MkAt K mg "Model" "Model.__init__" t.cModel s_Model_init ["self","kg","litres","groups"])
  (a57:FunAt K mg "add_model" s_add_model ["yard","kg","litres","groups"])
  (a58:FunAt K mg "add_car" s_add_car ["yard","m","lacks"])
  (a59:FunAt K mg "drain_car" s_drain_car ["yard","k"])
  (a60:FunAt K mg "why_not_from" s_why_not_from ["yard","k","t"])
  (a61:FunAt K mg "take_part_off" s_take_part_off ["yard","k","t"])
  (a62:FunAt K mg "strip_for" s_strip_for ["yard","k","t"])
  (a63:FunAt K mg "gather_parts" s_gather_parts ["yard","m","wanted"])
  (a64:FunAt K mg "sell_part" s_sell_part ["yard","i","price"])
  (a65:FunAt K mg "crush_car" s_crush_car ["yard","k"])
  (a66:FunAt K mg "cart_scrap" s_cart_scrap ["yard","price"])
  (a67:FunAt K mg "pump_out" s_pump_out ["yard","n","price"])
  (a68:FunAt K mg "begin_anew" s_begin_anew ["record"])
  (a69:FunAt K mg "keep_change" s_keep_change ["record","draft"])
  (a70:FunAt K mg "take_back" s_take_back ["record"])
  (a71:FunAt K mg "do_again" s_do_again ["record"])
  (a72:FunAt K mg "change" s_change ["yard","call"])
  (a73:FunAt K mg "ask_of_car" s_ask_of_car ["yard","call"])
  (a74:FunAt K mg "ask_of_parts" s_ask_of_parts ["yard","call"])
  (a75:FunAt K mg "ask_of_accounts" s_ask_of_accounts ["yard","call"])
  (a76:FunAt K mg "ask" s_ask ["yard","call"])
  (a77:FunAt K mg "answer_change" s_answer_change ["record","call"])
  (a78:FunAt K mg "answer" s_answer ["record","call"])
  (a79:MkAt K mg "Record" "Record.__init__" t.cRecord s_Record_init ["self"]) :
  FnOk P w K mg base CX0 11 fa fd ["calls"] (sp_answers K Pt):=by
 have f0:=a0.fd fun f d F=>ok_kinds_in (P:=P) (w:=w) (base:=base) F T 
 have f1:=a1.fd fun f d F=>ok_bits_of (P:=P) (w:=w) (base:=base) F T 
 have f2:=a2.fd fun f d F=>ok_minutes_of (P:=P) (w:=w) (base:=base) F T f0
 have f3:=a3.fd fun f d F=>ok_kilograms_of (P:=P) (w:=w) (base:=base) F T f0
 have f4:=a4.fd fun f d F=>ok_harmful_kinds (P:=P) (w:=w) (base:=base) F T 
 have f5:=a5.fd fun f d F=>ok_is_dry (P:=P) (w:=w) (base:=base) F T 
 have f6:=a6.fd fun f d F=>ok_has_part (P:=P) (w:=w) (base:=base) F T 
 have f7:=a7.fd fun f d F=>ok_is_held_back (P:=P) (w:=w) (base:=base) F T 
 have f8:=a8.fd fun f d F=>ok_may_come_off (P:=P) (w:=w) (base:=base) F T f5 f6 f7
 have f9:=a9.fd fun f d F=>ok_must_come_off (P:=P) (w:=w) (base:=base) F T 
 have f10:=a10.fd fun f d F=>ok_free_places (P:=P) (w:=w) (base:=base) F T 
 have f11:=a11.fd fun f d F=>ok_take_off (P:=P) (w:=w) (base:=base) F T f0 f2 f3
 have f12:=a12.md fun f d F=>ok_Car (P:=P) (w:=w) (base:=base) F T 
 have f13:=a13.fd fun f d F=>ok_copied_car (P:=P) (w:=w) (base:=base) F T f12
 have f14:=a14.md fun f d F=>ok_Yard (P:=P) (w:=w) (base:=base) F T 
 have f15:=a15.fd fun f d F=>ok_copied_yard (P:=P) (w:=w) (base:=base) F T f14 f13
 have f16:=a16.fd fun f d F=>ok_kind_is_there (P:=P) (w:=w) (base:=base) F T 
 have f17:=a17.fd fun f d F=>ok_model_is_there (P:=P) (w:=w) (base:=base) F T 
 have f18:=a18.fd fun f d F=>ok_car_is_there (P:=P) (w:=w) (base:=base) F T 
 have f19:=a19.fd fun f d F=>ok_part_is_there (P:=P) (w:=w) (base:=base) F T 
 have f20:=a20.fd fun f d F=>ok_names_missing_kind (P:=P) (w:=w) (base:=base) F T 
 have f21:=a21.fd fun f d F=>ok_stock_kilograms (P:=P) (w:=w) (base:=base) F T 
 have f22:=a22.fd fun f d F=>ok_ask_weights (P:=P) (w:=w) (base:=base) F T f21
 have f23:=a23.fd fun f d F=>ok_ask_litres (P:=P) (w:=w) (base:=base) F T 
 have f24:=a24.fd fun f d F=>ok_ask_money (P:=P) (w:=w) (base:=base) F T 
 have f25:=a25.fd fun f d F=>ok_ask_state (P:=P) (w:=w) (base:=base) F T f10
 have f26:=a26.fd fun f d F=>ok_why_not_sought (P:=P) (w:=w) (base:=base) F T f17 f0 f20
 have f27:=a27.fd fun f d F=>ok_part_fits (P:=P) (w:=w) (base:=base) F T 
 have f28:=a28.fd fun f d F=>ok_stock_place (P:=P) (w:=w) (base:=base) F T f27
 have f29:=a29.fd fun f d F=>ok_lacking (P:=P) (w:=w) (base:=base) F T f0 f28
 have f30:=a30.fd fun f d F=>ok_can_give (P:=P) (w:=w) (base:=base) F T f5 f6 f27
 have f31:=a31.fd fun f d F=>ok_cars_that_give (P:=P) (w:=w) (base:=base) F T f30
 have f32:=a32.fd fun f d F=>ok_longer_ways (P:=P) (w:=w) (base:=base) F T 
 have f33:=a33.fd fun f d F=>ok_all_ways (P:=P) (w:=w) (base:=base) F T f32 f31
 have f34:=a34.fd fun f d F=>ok_wanted_by_way (P:=P) (w:=w) (base:=base) F T 
 have f35:=a35.fd fun f d F=>ok_must_by_way (P:=P) (w:=w) (base:=base) F T f34 f9
 have f36:=a36.fd fun f d F=>ok_way_takes (P:=P) (w:=w) (base:=base) F T f34 f9 f2
 have f37:=a37.fd fun f d F=>ok_least_way (P:=P) (w:=w) (base:=base) F T LH f33 f36
 have f38:=a38.fd fun f d F=>ok_filled (P:=P) (w:=w) (base:=base) F T 
 have f39:=a39.fd fun f d F=>ok_ask_fits (P:=P) (w:=w) (base:=base) F T f16 f17 f27
 have f40:=a40.fd fun f d F=>ok_ask_must (P:=P) (w:=w) (base:=base) F T f18 f6 f9 f2
 have f41:=a41.fd fun f d F=>ok_ask_may (P:=P) (w:=w) (base:=base) F T f18 f8
 have f42:=a42.fd fun f d F=>ok_ask_next (P:=P) (w:=w) (base:=base) F T f18 f0 f8 f1
 have f43:=a43.fd fun f d F=>ok_ask_look (P:=P) (w:=w) (base:=base) F T f18
 have f44:=a44.fd fun f d F=>ok_ask_harm (P:=P) (w:=w) (base:=base) F T f18 f4 f0 f9 f2
 have f45:=a45.fd fun f d F=>ok_ask_find (P:=P) (w:=w) (base:=base) F T f16 f17 f28
 have f46:=a46.fd fun f d F=>ok_ask_from (P:=P) (w:=w) (base:=base) F T f16 f17 f31 f1
 have f47:=a47.fd fun f d F=>ok_ask_least (P:=P) (w:=w) (base:=base) F T f26 f29 f37 f36 f38
 have f48:=a48.fd fun f d F=>ok_ask_lacking (P:=P) (w:=w) (base:=base) F T f17 f20 f29 f1
 have f49:=a49.fd fun f d F=>ok_ask_part (P:=P) (w:=w) (base:=base) F T f19
 have f50:=a50.fd fun f d F=>ok_ask_count (P:=P) (w:=w) (base:=base) F T f16 f6
 have f51:=a51.fd fun f d F=>ok_ask_alike (P:=P) (w:=w) (base:=base) F T f16 f38
 have f52:=a52.md fun f d F=>ok_Call (P:=P) (w:=w) (base:=base) F T 
 have f53:=a53.fd fun f d F=>ok_split_calls (P:=P) (w:=w) (base:=base) F T f52
 have f54:=a54.md fun f d F=>ok_Kind (P:=P) (w:=w) (base:=base) F T 
 have f55:=a55.fd fun f d F=>ok_add_kind (P:=P) (w:=w) (base:=base) F T f20 f54
 have f56:=a56.md fun f d F=>ok_Model (P:=P) (w:=w) (base:=base) F T 
 have f57:=a57.fd fun f d F=>ok_add_model (P:=P) (w:=w) (base:=base) F T f56
 have f58:=a58.fd fun f d F=>ok_add_car (P:=P) (w:=w) (base:=base) F T f17 f20 f3 f12
 have f59:=a59.fd fun f d F=>ok_drain_car (P:=P) (w:=w) (base:=base) F T f18 f5
 have f60:=a60.fd fun f d F=>ok_why_not_from (P:=P) (w:=w) (base:=base) F T f18 f5 f6
 have f61:=a61.fd fun f d F=>ok_take_part_off (P:=P) (w:=w) (base:=base) F T f60 f7 f10 f11
 have f62:=a62.fd fun f d F=>ok_strip_for (P:=P) (w:=w) (base:=base) F T f60 f9 f10 f0 f11
 have f63:=a63.fd fun f d F=>ok_gather_parts (P:=P) (w:=w) (base:=base) F T f26 f29 f37 f35 f10 f0 f11
 have f64:=a64.fd fun f d F=>ok_sell_part (P:=P) (w:=w) (base:=base) F T f19
 have f65:=a65.fd fun f d F=>ok_crush_car (P:=P) (w:=w) (base:=base) F T f18 f5 f4
 have f66:=a66.fd fun f d F=>ok_cart_scrap (P:=P) (w:=w) (base:=base) F T 
 have f67:=a67.fd fun f d F=>ok_pump_out (P:=P) (w:=w) (base:=base) F T 
 have f68:=a68.fd fun f d F=>ok_begin_anew (P:=P) (w:=w) (base:=base) F T f14
 have f69:=a69.fd fun f d F=>ok_keep_change (P:=P) (w:=w) (base:=base) F T 
 have f70:=a70.fd fun f d F=>ok_take_back (P:=P) (w:=w) (base:=base) F T 
 have f71:=a71.fd fun f d F=>ok_do_again (P:=P) (w:=w) (base:=base) F T 
 have f72:=a72.fd fun f d F=>ok_change (P:=P) (w:=w) (base:=base) F T f55 f57 f58 f59 f61 f62 f63 f64 f65 f66 f67
 have f73:=a73.fd fun f d F=>ok_ask_of_car (P:=P) (w:=w) (base:=base) F T f40 f41 f42 f43 f44
 have f74:=a74.fd fun f d F=>ok_ask_of_parts (P:=P) (w:=w) (base:=base) F T f39 f45 f46 f47 f48 f49 f50 f51
 have f75:=a75.fd fun f d F=>ok_ask_of_accounts (P:=P) (w:=w) (base:=base) F T f22 f23 f24
 have f76:=a76.fd fun f d F=>ok_ask (P:=P) (w:=w) (base:=base) F T f73 f74 f75
 have f77:=a77.fd fun f d F=>ok_answer_change (P:=P) (w:=w) (base:=base) F T f15 f72 f69
 have f78:=a78.fd fun f d F=>ok_answer (P:=P) (w:=w) (base:=base) F T f68 f77 f70 f71 f25 f76
 have f79:=a79.md fun f d F=>ok_Record (P:=P) (w:=w) (base:=base) F T f14
 exact ok_answers F T f79 f53 f78
end
end Y58
namespace L2
open PySem PySem.Spec PyProof.Rows
open PySem.W (WData Codec OpenSpec Well WellAll ReadsW ReadsAllW)
structure TabHd (K:PySem.W.Frag) (mg:Str→Option Value) (h:Heap) (c Pt:Addr):Prop where
 code:PySem.W.CodeHd h c Pt
 tab:h.get? Pt=some (PySem.W.tabObj #[])
 out:K.lookup Pt=none
 mods:∃bm ob,mg "__builtins__"=some (.ref bm)∧bm≠builtinsNs∧h.get? bm=some ob∧ob.cls=.type "module"∧ob.dict=some builtinsNs∧ob.data=.plain
theorem spec_callT {P:Program} {w:World} {K:PySem.W.Frag} {mg mb:Str→Option Value} {CX:CXT} {k:Nat} {fa:Addr} {fd:FuncData} {ps:List Str} {sp:Sp} {s₁:Shared} {vals:List Value} {ds:List WData} {R:PySem.W.WRecords} {cl:Str→Option Addr} {d0:WData} {c Pt:Addr}
  (KX:K.In s₁.heap) (hns:s₁.heap.Ns mainGlobals mg) (hb:s₁.heap.Ns builtinsNs mb) (hbb:∀x:Str,x≠"__name__"→mb x=bootBuiltins x) (hlim:s₁.heap.NoLimit) (hg:s₁.gens=#[]) (hTB:TabHd K mg s₁.heap c Pt)
  (hwl:WellAll w.params s₁.heap vals ds) (hpl:plWs ds=true) (hwt:∀d∈ds,d.weight≤1048576) (hr:Room k callerA)
  (F:∀base:Heap,K.In base→base.Ns mainGlobals mg→LamHd K mg base c Pt→FnOk P w K mg base CX k fa fd ps sp) (hbind:∀(s:Shared) (us:List Value),us.length=ps.length→BindsTo s fd ⟨us,[]⟩ (ps.zip us)) (hlen:ds.length=ps.length)
  (hsp:∀(H H':Hp) (xs:List V),OnlyF H→Same H H'→H' Pt=some (.tbl #[])→DwAll K H xs ds→sp xs H' (fun v H'=>Dw K H' v d0) fun _ _ _=>False)
  (hCX:∀H e s',CX [] H s₁ (fun _ _ _=>False) e s'→False) :
  codeAny (model P w) callerA (.call (.ref fa) ⟨vals,[]⟩) (fun r s'=>∃u as,r=.ok (.ret u)∧ReadsW R cl s'.heap u d0 as∧OldK s₁.heap s'.heap∧s'.os=s₁.os∧AllBare s'.gens) s₁:=by
 obtain ⟨A,ho,ar⟩:=area_all ds vals hwl hpl hwt
 have hO:OnlyF (argH K s₁.heap A):=argH_only ar
 have hok:HOk P w (argH K s₁.heap A) s₁.heap:=argH_ok ar
 have hS:=dw_all KX ar ds vals hwl hpl ho
 have hV:=vals_toV ho
 have hK:∀b u,argH K s₁.heap A b=some u→K.lookup b=none:=fun b u q=>(argH_is ar q).1
 have noS:∀{b:Addr} {o:Obj},s₁.heap.get? b=some o→(∀vs n,o.data≠.seq vs n)→argH K s₁.heap A b=none:=fun {b o} e d=>by
  cases q:argH K s₁.heap A b with
  | none=>rfl
  | some u =>
   obtain ⟨_,vs,_,_,⟨e2,_⟩ | ⟨e2,_⟩⟩:=argH_is ar q
   ·rw [e2] at e
    cases e
    exact absurd rfl (d _ _)
   ·rw [e2] at e
    cases e
    exact absurd rfl (d _ _)
 have hPn:argH K s₁.heap A Pt=none:=noS hTB.tab (by intro vs n z;cases z)
 generalize argH K s₁.heap A=H0 at hO hok hS hK noS hPn
 have hsame:Same H0 (upd H0 Pt (.tbl #[])):=fun b o e=>by rw [upd_ne (ne_of_none e hPn)];exact e
 have hPt:(upd H0 Pt (.tbl #[])) Pt=some (.tbl #[]):=upd_same
 have old:∀b u,(upd H0 Pt (.tbl #[])) b=some u→b≠Pt→H0 b=some u:=fun b u e n=>by rw [upd_ne n] at e;exact e
 have none_of:∀b,H0 b=none→b≠Pt→(upd H0 Pt (.tbl #[])) b=none:=fun b e n=>by rw [upd_ne n];exact e
 have hok1:HOk P w (upd H0 Pt (.tbl #[])) s₁.heap:=fun b u e=>by
  by_cases q:b=Pt
  ·subst q
   rw [upd_same] at e
   cases e
   exact hTB.tab
  ·exact (hok b u (old b u e q)).stay (fun c v _ r=>r) (fun c r=>hsame _ _ r) fun c xs r=>hsame _ _ r
 have hsp1:=hsp H0 (upd H0 Pt (.tbl #[])) _ hO hsame hPt hS
 generalize upd H0 Pt (.tbl #[])=H at hsame hPt old none_of hok1 hsp1
 have base_of:∀{b:Addr} {o:Obj},s₁.heap.get? b=some o→H b=none→(hidT s₁.heap H).get? b=some o:=fun e n=>hidT_get e n
 have nP:∀{b:Addr} {o:Obj},s₁.heap.get? b=some o→(∀vs,o.data≠.fields vs)→b≠Pt:=fun e d q=>by
  rw [q,hTB.tab] at e
  cases e
  exact d _ rfl
 have nsK:∀{b:Addr} {m:Str→Option Value},s₁.heap.Ns b m→(hidT s₁.heap H).Ns b m:=fun {b m} ⟨o,es,ep,e,d,r⟩=>⟨o,es,ep,base_of e (none_of b (noS e (by rw [d];intro vs n z;cases z)) (nP e (by rw [d];intro vs z;cases z))),d,r⟩
 have nKP:∀b o,K.lookup b=some o→b≠Pt:=fun b o e q=>by rw [q,hTB.out] at e;cases e
 have nK:∀b o,K.lookup b=some o→H b=none:=fun b o e=>by
  refine none_of b ?_ (nKP b o e)
  cases q:H0 b with
  | none=>rfl
  | some u =>
   rw [hK b u q] at e
   cases e
 have hKb:K.In (hidT s₁.heap H):=fun b o e=>base_of (KX b o e) (nK b o e)
 have hM:Mod K mg (hidT s₁.heap H):=⟨hKb,nsK hns,⟨mb,nsK hb,hbb⟩,let ⟨mc,h1,h2⟩:=hlim;⟨mc,nsK h1,h2⟩⟩
 have e0:Env0 P w K mg (hidT s₁.heap H) callerA [] s₁ H:=⟨rfl,hM,fun b o e=>of_hidT e,Nat.le_of_eq (hidT_size _ _),trivial,fun b hb=>absurd (show b∈([]:List Addr) from hb) (by simp),hok1,.of_eq hg⟩
 have hl:vals.length=ps.length:=by rw [wellAll_len hwl];exact hlen
 have hLH:LamHd K mg (hidT s₁.heap H) c Pt:=by
  refine ⟨?_,?_,?_⟩
  ·obtain ⟨o,vs,file,tf,flags,tg,inF,text,tt,e1,e2,e3,r1,r2,r3,r4,r5,r6,hne⟩:=hTB.code
   exact ⟨o,vs,file,tf,flags,tg,inF,text,tt,base_of e1 (none_of c (noS e1 (by rw [e3];intro vs n z;cases z)) hne),e2,e3,r1,r2,r3,r4,r5,r6,hne⟩
  ·obtain ⟨bm,ob,b1,b2,b3,b4,b5,b6⟩:=hTB.mods
   refine ⟨bm,ob,b1,b2,fun q=>?_,base_of b3 (none_of bm (noS b3 (by rw [b6];intro vs n z;cases z)) (nP b3 (by rw [b6];intro vs z;cases z))),b4,b5,b6⟩
   obtain ⟨o,es,ep,e,d,_⟩:=hns
   rw [q,e] at b3
   cases b3
   rw [d] at b6
   cases b6
  ·cases q:(hidT s₁.heap H).get? Pt with
   | none=>rfl
   | some o =>
    rw [(of_hidT q).2] at hPt
    cases hPt
 refine codeAny_mono ((F _ hKb (nsK hns) hLH).run callerA [] s₁ H ⟨vals,[]⟩ vals (vals.map toV) _ _ hr e0 (hbind s₁ vals hl) hV hsp1) fun r s' x=>?_
 cases r with
 | error e=>exact (hCX H e s' x).elim
 | ok fl =>
  cases fl with
  | next=>exact False.elim x
  | brk=>exact False.elim x
  | cont=>exact False.elim x
  | ret u =>
   obtain ⟨v,H',os,bare,un,hok',r',q⟩:=x
   have kept:∀b o,s₁.heap.get? b=some o→b≠Pt→s'.heap.get? b=some o:=fun b o e n=>by
    cases q2:H b with
    | none=>exact un.keep b o e q2 (by intro z;exact absurd (show b∈([]:List Addr) from z) (by simp)) (by simp)
    | some u2 =>
     have q3:=old b u2 q2 n
     rcases hO b with z | ⟨ob,u3,z⟩
     ·rw [q3] at z
      cases z
     ·have q4:H b=some (.frz ob u3):=hsame _ _ z
      have z2:=un.frzs b ob _ q4
      obtain ⟨e1,_⟩:=hok1 b _ q4
      obtain ⟨e2,_⟩:=hok' b _ z2
      rw [e] at e1
      cases e1
      exact e2
   obtain ⟨more,hmore⟩:=un.tbls Pt _ hPt
   have hPt':s'.heap.get? Pt=some { cls:=.none,data:=.fields (#[]++more) }:=hok' Pt _ hmore
   have KX':K.In s'.heap:=fun b o e=>kept b o (KX b o e) (nKP b o e)
   obtain ⟨as,hrd⟩:=Dw.reads (R:=R) (cl:=cl) hok' KX' d0 v u q r'
   refine ⟨u,as,rfl,hrd,⟨fun b o e=>?_,fun b o e=>?_⟩,os,bare⟩
   ·by_cases n:b=Pt
    ·subst n
     have eo:o=PySem.W.tabObj #[]:=Option.some.inj (e.symm.trans hTB.tab)
     subst eo
     exact .inr (.inl ⟨(hTB.code.tab hTB.tab).isCodeTable,rfl,#[],more,rfl,hPt'⟩)
    ·exact .inl (kept b o e n)
   ·by_cases n:b=Pt
    ·subst n;exact ⟨_,hPt'⟩
    ·exact ⟨o,kept b o e n⟩
theorem walk_specT {r:OpenSpec} {k:Nat} {q:Program} {loose:List Str} {XP:(Str→Option Value)→Heap→Prop} {YP:World→Heap→Prop} {d:DefRec} {K:Params→PySem.W.Frag} {CX:CXT} {ps:List Str} {sp:PySem.W.Frag→Addr→Sp} {y:Str}
  (hwell:r.wellSaid=true) (hdf:d.params.defaults=[]) (hlen:r.args.length=ps.length) (hr:Room k callerA)
  (hY:∀(w:World) (h:Heap),YP w h→(K w.params).In h) (hfind:((recsOf q).find? (fun e=>e.name==y)).isSome=true)
  (F:∀(w:World) (mg:Str→Option Value) (fa:Addr) (h:Heap),YP w h→(K w.params).In h→h.Ns mainGlobals mg→mg d.name=some (.ref fa) →
   ∃(c Pt:Addr) (fd:FuncData),PySem.W.tabIn (K w.params) y=some (c,Pt)∧(K w.params).lookup Pt=none∧(∀(s:Shared) (us:List Value),us.length=ps.length→BindsTo s fd ⟨us,[]⟩ (ps.zip us)) ∧
    ∀base:Heap,(K w.params).In base→base.Ns mainGlobals mg→LamHd (K w.params) mg base c Pt→FnOk r.prog w (K w.params) mg base CX k fa fd ps (sp (K w.params) Pt))
  (hsp:∀(K:PySem.W.Frag) (Pt:Addr) (H H':Hp) (xs:List V) (a:Codec.denoteAll r.args),OnlyF H→Same H H'→H' Pt=some (.tbl #[])→Codec.withinAll r.args a=true→Codec.app r.args r.asked a=true→DwAll K H xs (Codec.encAll r.args a) →
   sp K Pt xs H' (fun v H'=>Dw K H' v (r.ret.enc (Codec.app r.args r.f a))) fun _ _ _=>False)
  (hCX:∀(H:Hp) (s:Shared) (e:Value) (s':Shared),CX [] H s (fun _ _ _=>False) e s'→False) :
  PySem.W.WalkOS q loose XP YP r d [] (fun f vs=>PySem.call f vs):=by
 intro w s_0 s₁ mg mb G Y fa o pm cd doc dV kV ho hd hcd hD hmg hg args vals as hpre hlay hrd hwl hlo
 obtain ⟨a,e1,e2⟩:=PySem.W.os_pre_some hpre
 obtain ⟨e3,hwi⟩:=Codec.encAll_of_decAll r.args args a e1
 subst e3
 have KX:=hY w _ Y
 obtain ⟨c,Pt,fd,ht,hout,hb,hF⟩:=F w mg fa _ Y KX G.T.g hmg
 obtain ⟨dl,hdl⟩:=Option.isSome_iff_exists.mp hfind
 obtain ⟨hC,hP⟩:=PySem.W.tab_of G.T KX hdl ht
 refine PySem.W.enter_call (codeAny_mono (spec_callT (R:=[]) (cl:=classAt s_0.heap) (d0:=r.ret.enc (Codec.app r.args r.f a)) KX G.T.g G.T.b G.T.builtins G.T.nolimit hg ⟨hC,hP,hout,G.T.bmain⟩ hwl (pl_encAll _ _) (layable_weight hlay) hr hF hb (by rw [encAll_len];exact hlen)
  (fun H H' xs hO hs hT hS=>hsp (K w.params) Pt H H' xs a hO hs hT hwi e2 hS) fun H e s'=>hCX H s₁ e s') fun r' s' hq=>?_)
 obtain ⟨u,as',rfl,h1,h2,h3,h4⟩:=hq
 exact ⟨.inl ⟨u,_,as',rfl,fun _=>rfl,h1,(OpenSpec.post_iff hwell hwi _ _).mpr rfl,fun z=>Bool.noConfusion (show false=true from z)⟩,h2,h3,h4⟩
end L2
namespace Y58
open PySem PySem.Spec PyProof.Rows L2
open PySem.W (Codec)
theorem spAns (K:PySem.W.Frag) (Pt:Addr) (H H':Hp) (xs:List V) (a:Codec.denoteAll (PySem.Challenge.rw_breakersyard_s01_answers).args) (hs:Same H H') (hP:H' Pt=some (.tbl #[])) (hask:Codec.app (PySem.Challenge.rw_breakersyard_s01_answers).args (PySem.Challenge.rw_breakersyard_s01_answers).asked a=true)
  (hx:DwAll K H xs (Codec.encAll (PySem.Challenge.rw_breakersyard_s01_answers).args a)):sp_answers K Pt xs H' (fun v H'=>Dw K H' v ((PySem.Challenge.rw_breakersyard_s01_answers).ret.enc (Codec.app (PySem.Challenge.rw_breakersyard_s01_answers).args (PySem.Challenge.rw_breakersyard_s01_answers).f a))) fun _ _ _=>False:=by
 cases hx with
 | cons h1 h2 =>
  cases h2
  cases h1 with
  | lst hq ha =>
   have e:=L2.ints_dw a.1 _ ha
   subst e
   exact ⟨_,a.1,rfl,hs.seq hq,hask,.inl hP,fun H2 p hp=>.lst (L2.SqL.of hp) (L2.dw_ints _)⟩
end Y58
namespace Y58
theorem us1 {α:Type} {p:List α→Prop} (h:∀a0,p [a0]):∀us:List α,us.length=1→p us
 | [a0],_=>h a0
theorem us2 {α:Type} {p:List α→Prop} (h:∀a0 a1,p [a0,a1]):∀us:List α,us.length=2→p us
 | [a0,a1],_=>h a0 a1
theorem us3 {α:Type} {p:List α→Prop} (h:∀a0 a1 a2,p [a0,a1,a2]):∀us:List α,us.length=3→p us
 | [a0,a1,a2],_=>h a0 a1 a2
theorem us4 {α:Type} {p:List α→Prop} (h:∀a0 a1 a2 a3,p [a0,a1,a2,a3]):∀us:List α,us.length=4→p us
 | [a0,a1,a2,a3],_=>h a0 a1 a2 a3
theorem us5 {α:Type} {p:List α→Prop} (h:∀a0 a1 a2 a3 a4,p [a0,a1,a2,a3,a4]):∀us:List α,us.length=5→p us
 | [a0,a1,a2,a3,a4],_=>h a0 a1 a2 a3 a4
end Y58
local macro_rules | `(tactic| walk_at "b1")=>`(tactic| exact fun _ _ _ _ _ _=>Y58.us1 fun _=>rfl)
local macro_rules | `(tactic| walk_at "b2")=>`(tactic| exact fun _ _ _ _ _ _=>Y58.us2 fun _ _=>rfl)
local macro_rules | `(tactic| walk_at "b3")=>`(tactic| exact fun _ _ _ _ _ _=>Y58.us3 fun _ _ _=>rfl)
local macro_rules | `(tactic| walk_at "b4")=>`(tactic| exact fun _ _ _ _ _ _=>Y58.us4 fun _ _ _ _=>rfl)
local macro_rules | `(tactic| walk_at "b5")=>`(tactic| exact fun _ _ _ _ _ _=>Y58.us5 fun _ _ _ _ _=>rfl)
open PySem PySem.W PyProof.Rows
set_option maxRecDepth 100000 in
set_option maxHeartbeats 0 in
theorem PySem.Challenge.cw_breakersyard_s01_answers_holds : PySem.Challenge.rw_breakersyard_s01_answers.Holds := by
 w_on
 refine Y58.hd ?_
 k_fillS
 refine L2.walk_specT (r:=PySem.Challenge.rw_breakersyard_s01_answers) (k:=11) (CX:=L2.CX0) (ps:=["calls"]) (sp:=Y58.sp_answers) (y:="least_way") (by decide +kernel) rfl rfl ⟨rfl,by decide,by decide⟩ (fun w h Y=>PySem.W.kIn_of Y) (by decide +kernel) ?F ?S (fun _ _ _ _ z=>z)
 case F =>
  intro w mg fa h Y KX G hmg
  have C_Kind:=Y58.clsAt_mk (x:="Kind") (qual:="Kind.__init__") (s:=Y58.s_Kind_init) (ps:=["self","kg","minutes","needs","harm"]) (attrs:=["kg","minutes","needs","harm"]) KX G (by walk_at "b5") (by k_is) (by k_is) (by k_is) (by k_is) (by k_is) (by k_is) (by k_is) (by k_is) (by k_is) (by k_is) (by k_is) (by k_is) ⟨by k_is,by k_is,by k_is,by k_is,trivial⟩
  have C_Model:=Y58.clsAt_mk (x:="Model") (qual:="Model.__init__") (s:=Y58.s_Model_init) (ps:=["self","kg","litres","groups"]) (attrs:=["kg","litres","groups"]) KX G (by walk_at "b4") (by k_is) (by k_is) (by k_is) (by k_is) (by k_is) (by k_is) (by k_is) (by k_is) (by k_is) (by k_is) (by k_is) (by k_is) ⟨by k_is,by k_is,by k_is,trivial⟩
  have C_Car:=Y58.clsAt_mk (x:="Car") (qual:="Car.__init__") (s:=Y58.s_Car_init) (ps:=["self","model","has","litres","kg"]) (attrs:=["model","has","litres","kg","crushed"]) KX G (by walk_at "b5") (by k_is) (by k_is) (by k_is) (by k_is) (by k_is) (by k_is) (by k_is) (by k_is) (by k_is) (by k_is) (by k_is) (by k_is) ⟨by k_is,by k_is,by k_is,by k_is,by k_is,trivial⟩
  have C_Yard:=Y58.clsAt_mk (x:="Yard") (qual:="Yard.__init__") (s:=Y58.s_Yard_init) (ps:=["self"]) (attrs:=["kinds","models","cars","stock","came_kg","came_litres","tank","scrap","sold_kg","sold_litres","minutes","earned"]) KX G (by walk_at "b1") (by k_is) (by k_is) (by k_is) (by k_is) (by k_is) (by k_is) (by k_is) (by k_is) (by k_is) (by k_is) (by k_is) (by k_is) ⟨by k_is,by k_is,by k_is,by k_is,by k_is,by k_is,by k_is,by k_is,by k_is,by k_is,by k_is,by k_is,trivial⟩
  have C_Call:=Y58.clsAt_mk (x:="Call") (qual:="Call.__init__") (s:=Y58.s_Call_init) (ps:=["self","number","given","row"]) (attrs:=["number","given","row"]) KX G (by walk_at "b4") (by k_is) (by k_is) (by k_is) (by k_is) (by k_is) (by k_is) (by k_is) (by k_is) (by k_is) (by k_is) (by k_is) (by k_is) ⟨by k_is,by k_is,by k_is,trivial⟩
  have C_Record:=Y58.clsAt_mk (x:="Record") (qual:="Record.__init__") (s:=Y58.s_Record_init) (ps:=["self"]) (attrs:=["now","earlier","later"]) KX G (by walk_at "b1") (by k_is) (by k_is) (by k_is) (by k_is) (by k_is) (by k_is) (by k_is) (by k_is) (by k_is) (by k_is) (by k_is) (by k_is) ⟨by k_is,by k_is,by k_is,trivial⟩
  have A_kinds_in:=Y58.funAt_mk (x:="kinds_in") (s:=Y58.s_kinds_in) (ps:=["bits"]) KX G (by walk_at "b1") (by k_is) (by k_is) (by k_is) (by k_is)
  have A_bits_of:=Y58.funAt_mk (x:="bits_of") (s:=Y58.s_bits_of) (ps:=["numbers"]) KX G (by walk_at "b1") (by k_is) (by k_is) (by k_is) (by k_is)
  have A_minutes_of:=Y58.funAt_mk (x:="minutes_of") (s:=Y58.s_minutes_of) (ps:=["yard","bits"]) KX G (by walk_at "b2") (by k_is) (by k_is) (by k_is) (by k_is)
  have A_kilograms_of:=Y58.funAt_mk (x:="kilograms_of") (s:=Y58.s_kilograms_of) (ps:=["yard","bits"]) KX G (by walk_at "b2") (by k_is) (by k_is) (by k_is) (by k_is)
  have A_harmful_kinds:=Y58.funAt_mk (x:="harmful_kinds") (s:=Y58.s_harmful_kinds) (ps:=["yard"]) KX G (by walk_at "b1") (by k_is) (by k_is) (by k_is) (by k_is)
  have A_is_dry:=Y58.funAt_mk (x:="is_dry") (s:=Y58.s_is_dry) (ps:=["car"]) KX G (by walk_at "b1") (by k_is) (by k_is) (by k_is) (by k_is)
  have A_has_part:=Y58.funAt_mk (x:="has_part") (s:=Y58.s_has_part) (ps:=["car","t"]) KX G (by walk_at "b2") (by k_is) (by k_is) (by k_is) (by k_is)
  have A_is_held_back:=Y58.funAt_mk (x:="is_held_back") (s:=Y58.s_is_held_back) (ps:=["yard","car","t"]) KX G (by walk_at "b3") (by k_is) (by k_is) (by k_is) (by k_is)
  have A_may_come_off:=Y58.funAt_mk (x:="may_come_off") (s:=Y58.s_may_come_off) (ps:=["yard","car","t"]) KX G (by walk_at "b3") (by k_is) (by k_is) (by k_is) (by k_is)
  have A_must_come_off:=Y58.funAt_mk (x:="must_come_off") (s:=Y58.s_must_come_off) (ps:=["yard","car","wanted"]) KX G (by walk_at "b3") (by k_is) (by k_is) (by k_is) (by k_is)
  have A_free_places:=Y58.funAt_mk (x:="free_places") (s:=Y58.s_free_places) (ps:=["yard"]) KX G (by walk_at "b1") (by k_is) (by k_is) (by k_is) (by k_is)
  have A_take_off:=Y58.funAt_mk (x:="take_off") (s:=Y58.s_take_off) (ps:=["yard","car","bits"]) KX G (by walk_at "b3") (by k_is) (by k_is) (by k_is) (by k_is)
  have A_copied_car:=Y58.funAt_mk (x:="copied_car") (s:=Y58.s_copied_car) (ps:=["car"]) KX G (by walk_at "b1") (by k_is) (by k_is) (by k_is) (by k_is)
  have A_copied_yard:=Y58.funAt_mk (x:="copied_yard") (s:=Y58.s_copied_yard) (ps:=["yard"]) KX G (by walk_at "b1") (by k_is) (by k_is) (by k_is) (by k_is)
  have A_kind_is_there:=Y58.funAt_mk (x:="kind_is_there") (s:=Y58.s_kind_is_there) (ps:=["yard","t"]) KX G (by walk_at "b2") (by k_is) (by k_is) (by k_is) (by k_is)
  have A_model_is_there:=Y58.funAt_mk (x:="model_is_there") (s:=Y58.s_model_is_there) (ps:=["yard","m"]) KX G (by walk_at "b2") (by k_is) (by k_is) (by k_is) (by k_is)
  have A_car_is_there:=Y58.funAt_mk (x:="car_is_there") (s:=Y58.s_car_is_there) (ps:=["yard","k"]) KX G (by walk_at "b2") (by k_is) (by k_is) (by k_is) (by k_is)
  have A_part_is_there:=Y58.funAt_mk (x:="part_is_there") (s:=Y58.s_part_is_there) (ps:=["yard","i"]) KX G (by walk_at "b2") (by k_is) (by k_is) (by k_is) (by k_is)
  have A_names_missing_kind:=Y58.funAt_mk (x:="names_missing_kind") (s:=Y58.s_names_missing_kind) (ps:=["yard","bits"]) KX G (by walk_at "b2") (by k_is) (by k_is) (by k_is) (by k_is)
  have A_stock_kilograms:=Y58.funAt_mk (x:="stock_kilograms") (s:=Y58.s_stock_kilograms) (ps:=["yard"]) KX G (by walk_at "b1") (by k_is) (by k_is) (by k_is) (by k_is)
  have A_ask_weights:=Y58.funAt_mk (x:="ask_weights") (s:=Y58.s_ask_weights) (ps:=["yard"]) KX G (by walk_at "b1") (by k_is) (by k_is) (by k_is) (by k_is)
  have A_ask_litres:=Y58.funAt_mk (x:="ask_litres") (s:=Y58.s_ask_litres) (ps:=["yard"]) KX G (by walk_at "b1") (by k_is) (by k_is) (by k_is) (by k_is)
  have A_ask_money:=Y58.funAt_mk (x:="ask_money") (s:=Y58.s_ask_money) (ps:=["yard"]) KX G (by walk_at "b1") (by k_is) (by k_is) (by k_is) (by k_is)
  have A_ask_state:=Y58.funAt_mk (x:="ask_state") (s:=Y58.s_ask_state) (ps:=["record"]) KX G (by walk_at "b1") (by k_is) (by k_is) (by k_is) (by k_is)
  have A_why_not_sought:=Y58.funAt_mk (x:="why_not_sought") (s:=Y58.s_why_not_sought) (ps:=["yard","m","wanted"]) KX G (by walk_at "b3") (by k_is) (by k_is) (by k_is) (by k_is)
  have A_part_fits:=Y58.funAt_mk (x:="part_fits") (s:=Y58.s_part_fits) (ps:=["yard","t","m","n"]) KX G (by walk_at "b4") (by k_is) (by k_is) (by k_is) (by k_is)
  have A_stock_place:=Y58.funAt_mk (x:="stock_place") (s:=Y58.s_stock_place) (ps:=["yard","t","model"]) KX G (by walk_at "b3") (by k_is) (by k_is) (by k_is) (by k_is)
  have A_lacking:=Y58.funAt_mk (x:="lacking") (s:=Y58.s_lacking) (ps:=["yard","model","wanted"]) KX G (by walk_at "b3") (by k_is) (by k_is) (by k_is) (by k_is)
  have A_can_give:=Y58.funAt_mk (x:="can_give") (s:=Y58.s_can_give) (ps:=["yard","car","t","model"]) KX G (by walk_at "b4") (by k_is) (by k_is) (by k_is) (by k_is)
  have A_cars_that_give:=Y58.funAt_mk (x:="cars_that_give") (s:=Y58.s_cars_that_give) (ps:=["yard","t","model"]) KX G (by walk_at "b3") (by k_is) (by k_is) (by k_is) (by k_is)
  have A_longer_ways:=Y58.funAt_mk (x:="longer_ways") (s:=Y58.s_longer_ways) (ps:=["ways","cars"]) KX G (by walk_at "b2") (by k_is) (by k_is) (by k_is) (by k_is)
  have A_all_ways:=Y58.funAt_mk (x:="all_ways") (s:=Y58.s_all_ways) (ps:=["yard","model","lacks"]) KX G (by walk_at "b3") (by k_is) (by k_is) (by k_is) (by k_is)
  have A_wanted_by_way:=Y58.funAt_mk (x:="wanted_by_way") (s:=Y58.s_wanted_by_way) (ps:=["lacks","way"]) KX G (by walk_at "b2") (by k_is) (by k_is) (by k_is) (by k_is)
  have A_must_by_way:=Y58.funAt_mk (x:="must_by_way") (s:=Y58.s_must_by_way) (ps:=["yard","lacks","way"]) KX G (by walk_at "b3") (by k_is) (by k_is) (by k_is) (by k_is)
  have A_way_takes:=Y58.funAt_mk (x:="way_takes") (s:=Y58.s_way_takes) (ps:=["yard","lacks","way","known"]) KX G (by walk_at "b4") (by k_is) (by k_is) (by k_is) (by k_is)
  have A_filled:=Y58.funAt_mk (x:="filled") (s:=Y58.s_filled) (ps:=["numbers","length"]) KX G (by walk_at "b2") (by k_is) (by k_is) (by k_is) (by k_is)
  have A_ask_fits:=Y58.funAt_mk (x:="ask_fits") (s:=Y58.s_ask_fits) (ps:=["yard","t","m","n"]) KX G (by walk_at "b4") (by k_is) (by k_is) (by k_is) (by k_is)
  have A_ask_must:=Y58.funAt_mk (x:="ask_must") (s:=Y58.s_ask_must) (ps:=["yard","k","t"]) KX G (by walk_at "b3") (by k_is) (by k_is) (by k_is) (by k_is)
  have A_ask_may:=Y58.funAt_mk (x:="ask_may") (s:=Y58.s_ask_may) (ps:=["yard","k","t"]) KX G (by walk_at "b3") (by k_is) (by k_is) (by k_is) (by k_is)
  have A_ask_next:=Y58.funAt_mk (x:="ask_next") (s:=Y58.s_ask_next) (ps:=["yard","k"]) KX G (by walk_at "b2") (by k_is) (by k_is) (by k_is) (by k_is)
  have A_ask_look:=Y58.funAt_mk (x:="ask_look") (s:=Y58.s_ask_look) (ps:=["yard","k"]) KX G (by walk_at "b2") (by k_is) (by k_is) (by k_is) (by k_is)
  have A_ask_harm:=Y58.funAt_mk (x:="ask_harm") (s:=Y58.s_ask_harm) (ps:=["yard","k"]) KX G (by walk_at "b2") (by k_is) (by k_is) (by k_is) (by k_is)
  have A_ask_find:=Y58.funAt_mk (x:="ask_find") (s:=Y58.s_ask_find) (ps:=["yard","t","m"]) KX G (by walk_at "b3") (by k_is) (by k_is) (by k_is) (by k_is)
  have A_ask_from:=Y58.funAt_mk (x:="ask_from") (s:=Y58.s_ask_from) (ps:=["yard","t","m"]) KX G (by walk_at "b3") (by k_is) (by k_is) (by k_is) (by k_is)
  have A_ask_least:=Y58.funAt_mk (x:="ask_least") (s:=Y58.s_ask_least) (ps:=["yard","m","wanted"]) KX G (by walk_at "b3") (by k_is) (by k_is) (by k_is) (by k_is)
  have A_ask_lacking:=Y58.funAt_mk (x:="ask_lacking") (s:=Y58.s_ask_lacking) (ps:=["yard","m","wanted"]) KX G (by walk_at "b3") (by k_is) (by k_is) (by k_is) (by k_is)
  have A_ask_part:=Y58.funAt_mk (x:="ask_part") (s:=Y58.s_ask_part) (ps:=["yard","i"]) KX G (by walk_at "b2") (by k_is) (by k_is) (by k_is) (by k_is)
  have A_ask_count:=Y58.funAt_mk (x:="ask_count") (s:=Y58.s_ask_count) (ps:=["yard","t"]) KX G (by walk_at "b2") (by k_is) (by k_is) (by k_is) (by k_is)
  have A_ask_alike:=Y58.funAt_mk (x:="ask_alike") (s:=Y58.s_ask_alike) (ps:=["yard","t"]) KX G (by walk_at "b2") (by k_is) (by k_is) (by k_is) (by k_is)
  have A_split_calls:=Y58.funAt_mk (x:="split_calls") (s:=Y58.s_split_calls) (ps:=["calls"]) KX G (by walk_at "b1") (by k_is) (by k_is) (by k_is) (by k_is)
  have A_add_kind:=Y58.funAt_mk (x:="add_kind") (s:=Y58.s_add_kind) (ps:=["yard","kg","minutes","needs","harm"]) KX G (by walk_at "b5") (by k_is) (by k_is) (by k_is) (by k_is)
  have A_add_model:=Y58.funAt_mk (x:="add_model") (s:=Y58.s_add_model) (ps:=["yard","kg","litres","groups"]) KX G (by walk_at "b4") (by k_is) (by k_is) (by k_is) (by k_is)
  have A_add_car:=Y58.funAt_mk (x:="add_car") (s:=Y58.s_add_car) (ps:=["yard","m","lacks"]) KX G (by walk_at "b3") (by k_is) (by k_is) (by k_is) (by k_is)
  have A_drain_car:=Y58.funAt_mk (x:="drain_car") (s:=Y58.s_drain_car) (ps:=["yard","k"]) KX G (by walk_at "b2") (by k_is) (by k_is) (by k_is) (by k_is)
  have A_why_not_from:=Y58.funAt_mk (x:="why_not_from") (s:=Y58.s_why_not_from) (ps:=["yard","k","t"]) KX G (by walk_at "b3") (by k_is) (by k_is) (by k_is) (by k_is)
  have A_take_part_off:=Y58.funAt_mk (x:="take_part_off") (s:=Y58.s_take_part_off) (ps:=["yard","k","t"]) KX G (by walk_at "b3") (by k_is) (by k_is) (by k_is) (by k_is)
  have A_strip_for:=Y58.funAt_mk (x:="strip_for") (s:=Y58.s_strip_for) (ps:=["yard","k","t"]) KX G (by walk_at "b3") (by k_is) (by k_is) (by k_is) (by k_is)
  have A_gather_parts:=Y58.funAt_mk (x:="gather_parts") (s:=Y58.s_gather_parts) (ps:=["yard","m","wanted"]) KX G (by walk_at "b3") (by k_is) (by k_is) (by k_is) (by k_is)
  have A_sell_part:=Y58.funAt_mk (x:="sell_part") (s:=Y58.s_sell_part) (ps:=["yard","i","price"]) KX G (by walk_at "b3") (by k_is) (by k_is) (by k_is) (by k_is)
  have A_crush_car:=Y58.funAt_mk (x:="crush_car") (s:=Y58.s_crush_car) (ps:=["yard","k"]) KX G (by walk_at "b2") (by k_is) (by k_is) (by k_is) (by k_is)
  have A_cart_scrap:=Y58.funAt_mk (x:="cart_scrap") (s:=Y58.s_cart_scrap) (ps:=["yard","price"]) KX G (by walk_at "b2") (by k_is) (by k_is) (by k_is) (by k_is)
  have A_pump_out:=Y58.funAt_mk (x:="pump_out") (s:=Y58.s_pump_out) (ps:=["yard","n","price"]) KX G (by walk_at "b3") (by k_is) (by k_is) (by k_is) (by k_is)
  have A_begin_anew:=Y58.funAt_mk (x:="begin_anew") (s:=Y58.s_begin_anew) (ps:=["record"]) KX G (by walk_at "b1") (by k_is) (by k_is) (by k_is) (by k_is)
  have A_keep_change:=Y58.funAt_mk (x:="keep_change") (s:=Y58.s_keep_change) (ps:=["record","draft"]) KX G (by walk_at "b2") (by k_is) (by k_is) (by k_is) (by k_is)
  have A_take_back:=Y58.funAt_mk (x:="take_back") (s:=Y58.s_take_back) (ps:=["record"]) KX G (by walk_at "b1") (by k_is) (by k_is) (by k_is) (by k_is)
  have A_do_again:=Y58.funAt_mk (x:="do_again") (s:=Y58.s_do_again) (ps:=["record"]) KX G (by walk_at "b1") (by k_is) (by k_is) (by k_is) (by k_is)
  have A_change:=Y58.funAt_mk (x:="change") (s:=Y58.s_change) (ps:=["yard","call"]) KX G (by walk_at "b2") (by k_is) (by k_is) (by k_is) (by k_is)
  have A_ask_of_car:=Y58.funAt_mk (x:="ask_of_car") (s:=Y58.s_ask_of_car) (ps:=["yard","call"]) KX G (by walk_at "b2") (by k_is) (by k_is) (by k_is) (by k_is)
  have A_ask_of_parts:=Y58.funAt_mk (x:="ask_of_parts") (s:=Y58.s_ask_of_parts) (ps:=["yard","call"]) KX G (by walk_at "b2") (by k_is) (by k_is) (by k_is) (by k_is)
  have A_ask_of_accounts:=Y58.funAt_mk (x:="ask_of_accounts") (s:=Y58.s_ask_of_accounts) (ps:=["yard","call"]) KX G (by walk_at "b2") (by k_is) (by k_is) (by k_is) (by k_is)
  have A_ask:=Y58.funAt_mk (x:="ask") (s:=Y58.s_ask) (ps:=["yard","call"]) KX G (by walk_at "b2") (by k_is) (by k_is) (by k_is) (by k_is)
  have A_answer_change:=Y58.funAt_mk (x:="answer_change") (s:=Y58.s_answer_change) (ps:=["record","call"]) KX G (by walk_at "b2") (by k_is) (by k_is) (by k_is) (by k_is)
  have A_answer:=Y58.funAt_mk (x:="answer") (s:=Y58.s_answer) (ps:=["record","call"]) KX G (by walk_at "b2") (by k_is) (by k_is) (by k_is) (by k_is)
  have A_least:=Y58.lam_all (x:="least_way") (s:=Y58.s_least_way) (ps:=["yard","model","lacks"]) KX G (by walk_at "b3") (by k_is) (by k_is) (by k_is) (by k_is) (by k_is) (by rfl) (by kernel_rfl)
  have A_ans:=Y58.ansAt_mk (x:="answers") (s:=Y58.s_answers) (ps:=["calls"]) KX G (by walk_at "b1") (by k_is) (by k_is) (by k_is) (by k_is)
  have g_PLACES:=Y58.int_mk (x:="PLACES") (n:=30) KX G (by k_is)
  have g_MOST_KINDS:=Y58.int_mk (x:="MOST_KINDS") (n:=8) KX G (by k_is)
  have g_MOST_MODELS:=Y58.int_mk (x:="MOST_MODELS") (n:=6) KX G (by k_is)
  have g_MOST_CARS:=Y58.int_mk (x:="MOST_CARS") (n:=8) KX G (by k_is)
  have g_NOT_THERE:=Y58.int_mk (x:="NOT_THERE") (n:=-2) KX G (by k_is)
  have g_NOT_HAD:=Y58.int_mk (x:="NOT_HAD") (n:=-6) KX G (by k_is)
  have g_TANK_HAS_LESS:=Y58.int_mk (x:="TANK_HAS_LESS") (n:=-12) KX G (by k_is)
  have g_NOT_DRY:=Y58.int_mk (x:="NOT_DRY") (n:=-13) KX G (by k_is)
  have g_IN_THE_WAY:=Y58.int_mk (x:="IN_THE_WAY") (n:=-16) KX G (by k_is)
  have g_DRY_ALREADY:=Y58.int_mk (x:="DRY_ALREADY") (n:=-17) KX G (by k_is)
  have g_NOT_AS_TOLD:=Y58.int_mk (x:="NOT_AS_TOLD") (n:=-22) KX G (by k_is)
  have g_NO_ROOM:=Y58.int_mk (x:="NO_ROOM") (n:=-28) KX G (by k_is)
  have g_NO_WAY:=Y58.int_mk (x:="NO_WAY") (n:=-33) KX G (by k_is)
  have g_TANK_WOULD_SPILL:=Y58.int_mk (x:="TANK_WOULD_SPILL") (n:=-62) KX G (by k_is)
  have g_MOST_GATHERED:=Y58.int_mk (x:="MOST_GATHERED") (n:=3) KX G (by k_is)
  have g_START:=Y58.int_mk (x:="START") (n:=0) KX G (by k_is)
  have g_ADD_KIND:=Y58.int_mk (x:="ADD_KIND") (n:=1) KX G (by k_is)
  have g_ADD_MODEL:=Y58.int_mk (x:="ADD_MODEL") (n:=2) KX G (by k_is)
  have g_ADD_CAR:=Y58.int_mk (x:="ADD_CAR") (n:=3) KX G (by k_is)
  have g_DRAIN:=Y58.int_mk (x:="DRAIN") (n:=4) KX G (by k_is)
  have g_OFF:=Y58.int_mk (x:="OFF") (n:=5) KX G (by k_is)
  have g_STRIP:=Y58.int_mk (x:="STRIP") (n:=6) KX G (by k_is)
  have g_GATHER:=Y58.int_mk (x:="GATHER") (n:=7) KX G (by k_is)
  have g_SELL:=Y58.int_mk (x:="SELL") (n:=8) KX G (by k_is)
  have g_CRUSH:=Y58.int_mk (x:="CRUSH") (n:=9) KX G (by k_is)
  have g_CART:=Y58.int_mk (x:="CART") (n:=10) KX G (by k_is)
  have g_PUMP:=Y58.int_mk (x:="PUMP") (n:=11) KX G (by k_is)
  have g_FITS:=Y58.int_mk (x:="FITS") (n:=12) KX G (by k_is)
  have g_MUST:=Y58.int_mk (x:="MUST") (n:=13) KX G (by k_is)
  have g_MAY:=Y58.int_mk (x:="MAY") (n:=14) KX G (by k_is)
  have g_NEXT:=Y58.int_mk (x:="NEXT") (n:=15) KX G (by k_is)
  have g_LOOK:=Y58.int_mk (x:="LOOK") (n:=16) KX G (by k_is)
  have g_FIND:=Y58.int_mk (x:="FIND") (n:=17) KX G (by k_is)
  have g_FROM:=Y58.int_mk (x:="FROM") (n:=18) KX G (by k_is)
  have g_LEAST:=Y58.int_mk (x:="LEAST") (n:=19) KX G (by k_is)
  have g_LACKING:=Y58.int_mk (x:="LACKING") (n:=20) KX G (by k_is)
  have g_PART:=Y58.int_mk (x:="PART") (n:=21) KX G (by k_is)
  have g_COUNT:=Y58.int_mk (x:="COUNT") (n:=22) KX G (by k_is)
  have g_HARM:=Y58.int_mk (x:="HARM") (n:=24) KX G (by k_is)
  have g_WEIGHTS:=Y58.int_mk (x:="WEIGHTS") (n:=25) KX G (by k_is)
  have g_LITRES:=Y58.int_mk (x:="LITRES") (n:=26) KX G (by k_is)
  have g_MONEY:=Y58.int_mk (x:="MONEY") (n:=27) KX G (by k_is)
  have g_BACK:=Y58.int_mk (x:="BACK") (n:=28) KX G (by k_is)
  have g_AGAIN:=Y58.int_mk (x:="AGAIN") (n:=29) KX G (by k_is)
  have g_STATE:=Y58.int_mk (x:="STATE") (n:=30) KX G (by k_is)
  have S_SIZES:=Y58.tupAt_mk (x:="SIZES") (ns:=[0,4,2,2,1,2,2,2,2,1,1,2,3,2,2,1,1,2,2,2,2,1,1,1,1,0,0,0,0,0,0]) KX G (by k_is) (by k_is) (by decide) (by rfl)
  have g_MOST_KIND_KG:=Y58.int_mk (x:="MOST_KIND_KG") (n:=500) KX G (by k_is)
  have g_MOST_MINUTES:=Y58.int_mk (x:="MOST_MINUTES") (n:=600) KX G (by k_is)
  have g_MOST_MODEL_KG:=Y58.int_mk (x:="MOST_MODEL_KG") (n:=5000) KX G (by k_is)
  have g_MOST_MODEL_LITRES:=Y58.int_mk (x:="MOST_MODEL_LITRES") (n:=100) KX G (by k_is)
  have g_MOST_GROUP:=Y58.int_mk (x:="MOST_GROUP") (n:=9) KX G (by k_is)
  have g_MOST_TANK_LITRES:=Y58.int_mk (x:="MOST_TANK_LITRES") (n:=300) KX G (by k_is)
  have g_MOST_PART_PRICE:=Y58.int_mk (x:="MOST_PART_PRICE") (n:=10000) KX G (by k_is)
  have g_MOST_TONNE_PRICE:=Y58.int_mk (x:="MOST_TONNE_PRICE") (n:=1000) KX G (by k_is)
  have g_MOST_LITRE_PRICE:=Y58.int_mk (x:="MOST_LITRE_PRICE") (n:=100) KX G (by k_is)
  have g_KG_OF_TONNE:=Y58.int_mk (x:="KG_OF_TONNE") (n:=1000) KX G (by k_is)
  have g_MOST_BACK:=Y58.int_mk (x:="MOST_BACK") (n:=30) KX G (by k_is)
  have b_sum:=Y58.non_mk (x:="sum") KX G (by k_is)
  have b_enumerate:=Y58.non_mk (x:="enumerate") KX G (by k_is)
  have b_range:=Y58.non_mk (x:="range") KX G (by k_is)
  have b_list:=Y58.non_mk (x:="list") KX G (by k_is)
  have b_len:=Y58.non_mk (x:="len") KX G (by k_is)
  have b_zip:=Y58.non_mk (x:="zip") KX G (by k_is)
  have b_min:=Y58.non_mk (x:="min") KX G (by k_is)
  have b_sorted:=Y58.non_mk (x:="sorted") KX G (by k_is)
  have b_max:=Y58.non_mk (x:="max") KX G (by k_is)
  have b_tuple:=Y58.non_mk (x:="tuple") KX G (by k_is)
  have b_set:=Y58.non_mk (x:="set") KX G (by k_is)
  obtain ⟨cKind,clKind,mkKind,nKind⟩:=C_Kind
  obtain ⟨cModel,clModel,mkModel,nModel⟩:=C_Model
  obtain ⟨cCar,clCar,mkCar,nCar⟩:=C_Car
  obtain ⟨cYard,clYard,mkYard,nYard⟩:=C_Yard
  obtain ⟨cCall,clCall,mkCall,nCall⟩:=C_Call
  obtain ⟨cRecord,clRecord,mkRecord,nRecord⟩:=C_Record
  obtain ⟨aSIZES,gSIZES,vSIZES⟩:=S_SIZES
  obtain ⟨c,Pt,A_least_way,ht,hout⟩:=A_least
  obtain ⟨f,fd,FA,hm,hbind⟩:=A_ans
  have e0:=hmg.symm.trans hm
  cases e0
  have T:=Y58.txt_id (mg:=mg) KX (t:=⟨cKind,cModel,cCar,cYard,cCall,cRecord,aSIZES⟩) {
   cl_Kind:=clKind,n_Kind_kg:=nKind.1,n_Kind_minutes:=nKind.2.1,n_Kind_needs:=nKind.2.2.1,n_Kind_harm:=nKind.2.2.2.1,cl_Model:=clModel,n_Model_kg:=nModel.1,n_Model_litres:=nModel.2.1,n_Model_groups:=nModel.2.2.1,cl_Car:=clCar,n_Car_model:=nCar.1,n_Car_has:=nCar.2.1,n_Car_litres:=nCar.2.2.1,n_Car_kg:=nCar.2.2.2.1,n_Car_crushed:=nCar.2.2.2.2.1,cl_Yard:=clYard,n_Yard_kinds:=nYard.1,n_Yard_models:=nYard.2.1,n_Yard_cars:=nYard.2.2.1,n_Yard_stock:=nYard.2.2.2.1,n_Yard_came_kg:=nYard.2.2.2.2.1,n_Yard_came_litres:=nYard.2.2.2.2.2.1,n_Yard_tank:=nYard.2.2.2.2.2.2.1,n_Yard_scrap:=nYard.2.2.2.2.2.2.2.1,n_Yard_sold_kg:=nYard.2.2.2.2.2.2.2.2.1,n_Yard_sold_litres:=nYard.2.2.2.2.2.2.2.2.2.1,n_Yard_minutes:=nYard.2.2.2.2.2.2.2.2.2.2.1,n_Yard_earned:=nYard.2.2.2.2.2.2.2.2.2.2.2.1,cl_Call:=clCall,n_Call_number:=nCall.1,n_Call_given:=nCall.2.1,n_Call_row:=nCall.2.2.1,cl_Record:=clRecord,n_Record_now:=nRecord.1,n_Record_earlier:=nRecord.2.1,n_Record_later:=nRecord.2.2.1,g_PLACES:=g_PLACES,g_MOST_KINDS:=g_MOST_KINDS,g_MOST_MODELS:=g_MOST_MODELS,g_MOST_CARS:=g_MOST_CARS,g_NOT_THERE:=g_NOT_THERE,g_NOT_HAD:=g_NOT_HAD,g_TANK_HAS_LESS:=g_TANK_HAS_LESS,g_NOT_DRY:=g_NOT_DRY,g_IN_THE_WAY:=g_IN_THE_WAY,g_DRY_ALREADY:=g_DRY_ALREADY,g_NOT_AS_TOLD:=g_NOT_AS_TOLD,g_NO_ROOM:=g_NO_ROOM,g_NO_WAY:=g_NO_WAY,g_TANK_WOULD_SPILL:=g_TANK_WOULD_SPILL,g_MOST_GATHERED:=g_MOST_GATHERED,g_START:=g_START,g_ADD_KIND:=g_ADD_KIND,g_ADD_MODEL:=g_ADD_MODEL,g_ADD_CAR:=g_ADD_CAR,g_DRAIN:=g_DRAIN,g_OFF:=g_OFF,g_STRIP:=g_STRIP,g_GATHER:=g_GATHER,g_SELL:=g_SELL,g_CRUSH:=g_CRUSH,g_CART:=g_CART,g_PUMP:=g_PUMP,g_FITS:=g_FITS,g_MUST:=g_MUST,g_MAY:=g_MAY,g_NEXT:=g_NEXT,g_LOOK:=g_LOOK,g_FIND:=g_FIND,g_FROM:=g_FROM,g_LEAST:=g_LEAST,g_LACKING:=g_LACKING,g_PART:=g_PART,g_COUNT:=g_COUNT,g_HARM:=g_HARM,g_WEIGHTS:=g_WEIGHTS,g_LITRES:=g_LITRES,g_MONEY:=g_MONEY,g_BACK:=g_BACK,g_AGAIN:=g_AGAIN,g_STATE:=g_STATE,g_SIZES:=gSIZES,v_SIZES:=vSIZES,g_MOST_KIND_KG:=g_MOST_KIND_KG,g_MOST_MINUTES:=g_MOST_MINUTES,g_MOST_MODEL_KG:=g_MOST_MODEL_KG,g_MOST_MODEL_LITRES:=g_MOST_MODEL_LITRES,g_MOST_GROUP:=g_MOST_GROUP,g_MOST_TANK_LITRES:=g_MOST_TANK_LITRES,g_MOST_PART_PRICE:=g_MOST_PART_PRICE,g_MOST_TONNE_PRICE:=g_MOST_TONNE_PRICE,g_MOST_LITRE_PRICE:=g_MOST_LITRE_PRICE,g_KG_OF_TONNE:=g_KG_OF_TONNE,g_MOST_BACK:=g_MOST_BACK,b_sum:=b_sum,b_enumerate:=b_enumerate,b_range:=b_range,b_list:=b_list,b_len:=b_len,b_zip:=b_zip,b_min:=b_min,b_sorted:=b_sorted,b_max:=b_max,b_tuple:=b_tuple,b_set:=b_set }
  exact ⟨c,Pt,fd,ht,hout,hbind,fun base kb nb LH=>Y58.all_ok T LH FA A_kinds_in A_bits_of A_minutes_of A_kilograms_of A_harmful_kinds A_is_dry A_has_part A_is_held_back A_may_come_off A_must_come_off A_free_places A_take_off mkCar A_copied_car mkYard A_copied_yard A_kind_is_there A_model_is_there A_car_is_there A_part_is_there A_names_missing_kind A_stock_kilograms A_ask_weights A_ask_litres A_ask_money A_ask_state A_why_not_sought A_part_fits A_stock_place A_lacking A_can_give A_cars_that_give A_longer_ways A_all_ways A_wanted_by_way A_must_by_way A_way_takes A_least_way A_filled A_ask_fits A_ask_must A_ask_may A_ask_next A_ask_look A_ask_harm A_ask_find A_ask_from A_ask_least A_ask_lacking A_ask_part A_ask_count A_ask_alike mkCall A_split_calls mkKind A_add_kind mkModel A_add_model A_add_car A_drain_car A_why_not_from A_take_part_off A_strip_for A_gather_parts A_sell_part A_crush_car A_cart_scrap A_pump_out A_begin_anew A_keep_change A_take_back A_do_again A_change A_ask_of_car A_ask_of_parts A_ask_of_accounts A_ask A_answer_change A_answer mkRecord⟩
 case S=>exact fun K Pt H H2 xs a hO hs hP hwi hask hx=>Y58.spAns K Pt H H2 xs a hs hP hask hx
